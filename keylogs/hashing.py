"""h of keys, by which the filter chooses bits; of many keys together, for they may be long and have much in common."""

from keylogs.keyorder import shared_length
from keylogs.packing import number_at

WORD = 0xFFFFFFFF
HALF_WORD = 0xFFFF
HASH_BEGIN = 0xBC9F1D34
HASH_FACTOR = 0xC6A4A793

# Where h of several keys stand side by side in one number, each has room for the double of a word, times the factor.
LANE = 66


def begun(length):
    """h of a key of so many bytes, before any of them is mixed in."""
    return HASH_BEGIN ^ ((length * HASH_FACTOR) & WORD)


def words_of(data):
    """Each whole four bytes of data as a number."""
    return [a + (b << 8) + (c << 16) + (d << 24)
            for a, b, c, d in zip(data[0::4], data[1::4], data[2::4], data[3::4])]


def mixed_together(lengths, beginning):
    """h of keys of these lengths that have a beginning of whole fours in common, once that's mixed in."""
    ones = 0
    lanes = 0
    for i, length in enumerate(lengths):
        ones += 1 << (LANE * i)
        lanes += begun(length) << (LANE * i)
    words = ones * WORD
    half_words = ones * HALF_WORD
    for word in words_of(beginning):
        lanes = ((lanes + word * ones) * HASH_FACTOR) & words
        lanes = lanes ^ ((lanes >> 16) & half_words)
    return [(lanes >> (LANE * i)) & WORD for i in range(len(lengths))]


def mixed_on(mixed, rest):
    """h of a key, gone on with from mixed: rest is what's not mixed in yet, ahead of it are whole fours."""
    for word in words_of(rest):
        mixed = ((mixed + word) * HASH_FACTOR) & WORD
        mixed = mixed ^ (mixed >> 16)
    over = len(rest) % 4
    if over > 0:
        mixed = ((mixed + number_at(rest, len(rest) - over, over)) * HASH_FACTOR) & WORD
        mixed = mixed ^ (mixed >> 24)
    return mixed


def key_hash(key):
    """The words' h of a key."""
    return mixed_on(begun(len(key)), key)


def key_hashes(keys):
    """The words' h of each of some keys that rise."""
    if keys == []:
        return []
    # What the first and the last have in common, those between have too.
    shared = shared_length(keys[0], keys[-1], 0) // 4 * 4
    begun_ones = mixed_together([len(key) for key in keys], keys[0][:shared])
    return [mixed_on(mixed, key[shared:]) for mixed, key in zip(begun_ones, keys)]
