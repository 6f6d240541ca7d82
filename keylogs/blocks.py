"""Blocks: entries packed by what their keys have in common."""

from keylogs.checksum import masked, sum_from
from keylogs.keyorder import shared_length
from keylogs.packing import fixed, varint


class BlockWriter:
    """A block that entries are put into, with a restart at every so manyth of them."""

    def __init__(self, interval):
        self.interval = interval
        self.body = []
        self.restarts = [0]
        self.entries = 0
        self.last_key = []

    def put(self, key, value):
        """Puts an entry in; its key comes behind all keys so far."""
        shared = 0
        if self.entries % self.interval != 0:
            shared = shared_length(self.last_key, key)
        elif self.entries > 0:
            self.restarts.append(len(self.body))
        self.body.extend(varint(shared))
        self.body.extend(varint(len(key) - shared))
        self.body.extend(varint(len(value)))
        self.body.extend(key[shared:])
        self.body.extend(value)
        self.entries += 1
        self.last_key = key

    def size(self):
        """How long the block is with what it has so far."""
        return len(self.body) + 4 * len(self.restarts) + 4

    def content(self):
        """The block's bytes."""
        content = list(self.body)
        for restart in self.restarts:
            content.extend(fixed(restart, 4))
        content.extend(fixed(len(self.restarts), 4))
        return content


def append_block(out, content):
    """Puts content and the five bytes behind it at the end of out; gives back its handle."""
    handle = varint(len(out)) + varint(len(content))
    out.extend(content)
    out.append(0)
    out.extend(fixed(masked(sum_from(sum_from(0, content), [0])), 4))
    return handle
