"""The filter: for each stretch of the file a piece that tells which keys may be there."""

from keylogs.errors import NoTable
from keylogs.hashing import WORD, key_hash, key_hashes
from keylogs.packing import fixed, number_at

PLACE_WIDTH = 4
END_WIDTH = 5
MOST_PROBES = 30
STRETCH_BITS = 11
STRETCH = 2048
# How many keys are hashed together.
TOGETHER = 128


class FilterWriter:
    """A filter that keys are put into, data block by data block."""

    def __init__(self, bits):
        self.bits = bits
        self.unhashed = []
        self.hashes = []
        self.blocks = []

    def put(self, key):
        """Puts a key in; it comes behind all keys so far."""
        self.unhashed.append(key)
        if len(self.unhashed) == TOGETHER:
            self.hash_keys()

    def hash_keys(self):
        """Hashes alone are kept, for the keys may be long."""
        self.hashes.extend(key_hashes(self.unhashed))
        self.unhashed = []

    def end_block(self, begin):
        """The keys since the block before are those of a data block that begins there."""
        self.blocks.append((begin, len(self.hashes) + len(self.unhashed)))

    def hashes_by_piece(self, end):
        """The hashes of each piece's keys, of data blocks that have ended at end."""
        pieces = [[] for stretch in range(end // STRETCH)]
        if self.blocks != [] and self.blocks[-1][0] // STRETCH == len(pieces):
            pieces.append([])
        first = 0
        for begin, behind in self.blocks:
            pieces[begin // STRETCH].extend(self.hashes[first:behind])
            first = behind
        return pieces

    def content(self, end):
        """The filter's bytes, of data blocks that have ended at end."""
        self.hash_keys()
        content = []
        places = []
        for hashes in self.hashes_by_piece(end):
            places.append(len(content))
            content.extend(piece_of(hashes, self.bits))
        places_begin = len(content)
        for place in places + [places_begin]:
            content.extend(fixed(place, PLACE_WIDTH))
        content.append(STRETCH_BITS)
        return content


def bit_places(mixed, probes, total):
    """Which of a piece's bits, total of them, a key with that hash sets."""
    place = mixed
    step = (mixed >> 17) | ((mixed << 15) & WORD)
    places = []
    for probe in range(probes):
        places.append(place % total)
        place = (place + step) & WORD
    return places


def probes_for(bits):
    """How many bits each key sets where there are so many bits for each key."""
    return min(max(69 * bits // 100, 1), MOST_PROBES)


def piece_of(hashes, bits):
    """The piece of keys with these hashes, with so many bits for each."""
    if hashes == []:
        return []
    size = (max(64, len(hashes) * bits) + 7) // 8
    probes = probes_for(bits)
    piece = [0] * size
    for mixed in hashes:
        for place in bit_places(mixed, probes, 8 * size):
            piece[place // 8] = piece[place // 8] | (1 << (place % 8))
    piece.append(probes)
    return piece


def places_of(content):
    """Where a filter's pieces begin, and where the last one has ended."""
    end = len(content) - END_WIDTH
    if end < 0 or content[-1] != STRETCH_BITS:
        raise NoTable()
    told = number_at(content, end, PLACE_WIDTH)
    if told > end or (end - told) % PLACE_WIDTH != 0:
        raise NoTable()
    places = []
    before = 0
    # Where the places begin is told behind them; that's where the last piece has ended, so none may lie past it.
    for begin in range(told, end + 1, PLACE_WIDTH):
        place = number_at(content, begin, PLACE_WIDTH)
        if place < before:
            raise NoTable()
        places.append(place)
        before = place
    return places


def piece_may_have(piece, key):
    """Whether a piece says that the key may be among those that it's of."""
    if len(piece) < 2:
        return False
    probes = piece[-1]
    if probes > MOST_PROBES:
        return True
    for place in bit_places(key_hash(key), probes, 8 * (len(piece) - 1)):
        if (piece[place // 8] >> (place % 8)) & 1 == 0:
            return False
    return True


def filter_may_have(content, begin, key):
    """Whether a filter says that the key may be in the data block that begins there."""
    places = places_of(content)
    stretch = begin // STRETCH
    if stretch + 1 >= len(places):
        return True
    return piece_may_have(content[places[stretch]:places[stretch + 1]], key)
