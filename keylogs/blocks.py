"""Blocks: entries packed by what their keys have in common."""

from keylogs.errors import NoTable
from keylogs.keyorder import shared_length
from keylogs.packing import fixed, number_at, varint
from keylogs.scanning import Scanner

NUMBER_WIDTH = 4


class BlockWriter:
    """A block that entries are put into, with a restart at every so manyth of them."""

    def __init__(self, interval):
        self.interval = interval
        self.body = []
        self.restarts = [0]
        self.entries = 0
        self.last_key = []

    def put(self, key, value, known):
        """Puts an entry in; its key comes behind all so far, and is known to have so much in common with the last."""
        shared = 0
        if self.entries % self.interval != 0:
            shared = shared_length(self.last_key, key, known)
        elif self.entries > 0:
            self.restarts.append(len(self.body))
        self.body.extend(varint(shared))
        self.body.extend(varint(len(key) - shared))
        self.body.extend(varint(len(value)))
        self.body.extend(key[shared:])
        self.body.extend(value)
        self.entries += 1
        self.last_key = key

    def size(self):
        """How long the block is with what it has so far."""
        return len(self.body) + NUMBER_WIDTH * (len(self.restarts) + 1)

    def content(self):
        """The block's bytes."""
        content = list(self.body)
        for restart in self.restarts:
            content.extend(fixed(restart, NUMBER_WIDTH))
        content.extend(fixed(len(self.restarts), NUMBER_WIDTH))
        return content


class BlockReader:
    """A block's entries, gone through one after another; it's refused where it's no block."""

    def __init__(self, block):
        self.restarts = restarts_of(block)
        self.scanner = Scanner(block, 0, len(block) - NUMBER_WIDTH * (len(self.restarts) + 1))
        # The first restart is where the first entry begins, and that can have nothing in common with a key before.
        self.met = 1
        self.shared = 0
        self.key = []
        self.value = []

    def advance(self):
        """Goes to the next entry; False, if there's none, and the block is read whole."""
        if self.scanner.at_end():
            if self.met < len(self.restarts):
                raise NoTable()
            return False
        begin = self.scanner.place
        self.shared = self.scanner.taken_varint()
        more_length = self.scanner.taken_varint()
        value_length = self.scanner.taken_varint()
        self.meet_restart(begin)
        self.change_key(begin, self.scanner.taken(more_length))
        self.value = self.scanner.taken(value_length)
        return True

    def meet_restart(self, begin):
        """Looks whether the entry that begins there is one for a restart, and may be."""
        if self.met < len(self.restarts) and self.restarts[self.met] == begin:
            if self.shared > 0:
                raise NoTable()
            self.met += 1

    def change_key(self, begin, more):
        """The key is changed in place, for few bytes may stand for many long keys."""
        if self.shared > len(self.key):
            raise NoTable()
        dropped = self.key[self.shared:]
        if begin > 0 and more <= dropped:
            raise NoTable()
        while len(self.key) > self.shared:
            self.key.pop()
        self.key.extend(more)


def restarts_of(block):
    """A block's restarts: at least one, the first 0, each after the one before it."""
    if len(block) < NUMBER_WIDTH:
        raise NoTable()
    total = number_at(block, len(block) - NUMBER_WIDTH, NUMBER_WIDTH)
    begin = len(block) - NUMBER_WIDTH * (total + 1)
    if total == 0 or begin < 0 or number_at(block, begin, NUMBER_WIDTH) > 0:
        raise NoTable()
    restarts = [0]
    for place in range(begin + NUMBER_WIDTH, len(block) - NUMBER_WIDTH, NUMBER_WIDTH):
        restart = number_at(block, place, NUMBER_WIDTH)
        if restart <= restarts[-1]:
            raise NoTable()
        restarts.append(restart)
    return restarts
