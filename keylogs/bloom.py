"""The filter: for each stretch of the file a piece that tells which keys may be there."""

from keylogs.errors import NoTable
from keylogs.packing import fixed, number_at

PLACE_WIDTH = 4
END_WIDTH = 5
MOST_PROBES = 30
STRETCH_BITS = 11
STRETCH = 2048
WORD = 0xFFFFFFFF
HASH_BEGIN = 0xBC9F1D34
HASH_FACTOR = 0xC6A4A793


def key_hash(key):
    """The words' h of a key."""
    mixed = HASH_BEGIN ^ ((len(key) * HASH_FACTOR) & WORD)
    over = len(key) % 4
    whole = len(key) - over
    for begin in range(0, whole, 4):
        mixed = ((mixed + number_at(key, begin, 4)) * HASH_FACTOR) & WORD
        mixed = mixed ^ (mixed >> 16)
    if over > 0:
        mixed = ((mixed + number_at(key, whole, over)) * HASH_FACTOR) & WORD
        mixed = mixed ^ (mixed >> 24)
    return mixed


def bit_places(key, probes, total):
    """Which of a piece's bits, total of them, a key sets."""
    place = key_hash(key)
    step = (place >> 17) | ((place << 15) & WORD)
    places = []
    for probe in range(probes):
        places.append(place % total)
        place = (place + step) & WORD
    return places


def probes_for(bits):
    """How many bits each key sets where there are so many bits for each key."""
    return min(max(69 * bits // 100, 1), MOST_PROBES)


def piece_of(keys, bits):
    """The piece of these keys with so many bits for each."""
    if keys == []:
        return []
    size = (max(64, len(keys) * bits) + 7) // 8
    probes = probes_for(bits)
    piece = [0] * size
    for key in keys:
        for place in bit_places(key, probes, 8 * size):
            piece[place // 8] = piece[place // 8] | (1 << (place % 8))
    piece.append(probes)
    return piece


def keys_by_piece(begins, block_keys, end):
    """The keys of each piece, of data blocks that begin at begins and end at end."""
    pieces = [[] for stretch in range(end // STRETCH)]
    if begins != [] and begins[-1] // STRETCH == len(pieces):
        pieces.append([])
    for begin, keys in zip(begins, block_keys):
        pieces[begin // STRETCH].extend(keys)
    return pieces


def filter_of(begins, block_keys, end, bits):
    """The filter of data blocks that begin at begins, have these keys and end at end."""
    content = []
    places = []
    for keys in keys_by_piece(begins, block_keys, end):
        places.append(len(content))
        content.extend(piece_of(keys, bits))
    places_begin = len(content)
    for place in places + [places_begin]:
        content.extend(fixed(place, PLACE_WIDTH))
    content.append(STRETCH_BITS)
    return content


def places_of(content):
    """Where a filter's pieces begin, and where the last one has ended."""
    end = len(content) - END_WIDTH
    if end < 0 or content[-1] != STRETCH_BITS:
        raise NoTable()
    told = number_at(content, end, PLACE_WIDTH)
    if told > end or (end - told) % PLACE_WIDTH != 0:
        raise NoTable()
    places = []
    before = 0
    # The number at the end, where the places begin, is also where the last piece has ended.
    for begin in range(told, end + 1, PLACE_WIDTH):
        place = number_at(content, begin, PLACE_WIDTH)
        if place < before or place > told:
            raise NoTable()
        places.append(place)
        before = place
    return places


def piece_may_have(piece, key):
    """Whether a piece says that the key may be among those that it's of."""
    if len(piece) < 2:
        return False
    probes = piece[-1]
    if probes > MOST_PROBES:
        return True
    for place in bit_places(key, probes, 8 * (len(piece) - 1)):
        if (piece[place // 8] >> (place % 8)) & 1 == 0:
            return False
    return True


def filter_may_have(content, begin, key):
    """Whether a filter says that the key may be in the data block that begins there."""
    places = places_of(content)
    stretch = begin // STRETCH
    if stretch + 1 >= len(places):
        return True
    return piece_may_have(content[places[stretch]:places[stretch + 1]], key)
