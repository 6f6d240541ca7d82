"""A table is made of entries."""

from keylogs.answers import TOO_LONG
from keylogs.blocks import BlockWriter
from keylogs.bloom import FilterWriter
from keylogs.handles import Handle, seal_of
from keylogs.keyorder import key_behind, key_between
from keylogs.layout import END_WIDTH, filter_key, table_end


class TableWriter:
    """A table that entries are put into, made of data blocks of about that size."""

    def __init__(self, interval, target, bits):
        self.interval = interval
        self.target = target
        self.filter_writer = FilterWriter(bits) if bits > 0 else None
        # What's been written so far, without the five bytes behind each part, and where it ends with them.
        self.parts = []
        self.end = 0
        self.block = BlockWriter(interval)
        self.last_key = []
        self.index_writer = BlockWriter(1)
        # The last data block's handle, till its index key can be told.
        self.unlisted = None
        self.ending = []

    def put(self, key, value, known):
        """Puts an entry in; its key comes behind all so far, and is known to have so much in common with the last."""
        if self.unlisted is not None:
            self.list_block(key_between(self.last_key, key))
        self.block.put(key, value, known)
        self.last_key = key
        if self.filter_writer is not None:
            self.filter_writer.put(key)
        if self.block.size() >= self.target:
            self.end_block()

    def reached(self):
        """How long the table is at the least, whatever is put in yet."""
        return self.end + self.block.size() + self.index_writer.size() + END_WIDTH

    def add_part(self, content):
        """Writes a part; gives back its handle."""
        handle = Handle(self.end, len(content))
        self.parts.append(content)
        self.end = handle.behind()
        return handle

    def end_block(self):
        """Writes the data block, and begins another."""
        if self.filter_writer is not None:
            self.filter_writer.end_block(self.end)
        self.unlisted = self.add_part(self.block.content())
        self.block = BlockWriter(self.interval)

    def list_block(self, index_key):
        """Puts the last data block into the index."""
        self.index_writer.put(index_key, self.unlisted.packed(), 0)
        self.unlisted = None

    def finish(self):
        """Writes what comes behind the data blocks; gives back how long the table is."""
        if self.block.entries > 0:
            self.end_block()
        if self.unlisted is not None:
            self.list_block(key_behind(self.last_key))
        meta = BlockWriter(self.interval)
        if self.filter_writer is not None:
            filter_handle = self.add_part(self.filter_writer.content(self.end))
            meta.put(filter_key(), filter_handle.packed(), 0)
        meta_handle = self.add_part(meta.content())
        index_handle = self.add_part(self.index_writer.content())
        self.ending = table_end(meta_handle, index_handle)
        return self.end + len(self.ending)

    def append_to(self, out):
        """Puts the bytes of a table that's finished at the end of out."""
        for part in self.parts:
            out.extend(part)
            out.extend(seal_of(part))
        out.extend(self.ending)


def finished_table(writer, most):
    """How long a writer's table is, and it; a refusal, if it's longer than most."""
    total = writer.finish()
    # Sums are taken only of a table that isn't too long, for that's slow.
    if total > most:
        return [TOO_LONG]
    answer = [total]
    writer.append_to(answer)
    return answer


def made_table(entries, interval, size, bits, most):
    """How long the table of entries is, and it; a refusal, if it's longer than most."""
    writer = TableWriter(interval, size, bits)
    for key, value in entries:
        writer.put(key, value, 0)
    return finished_table(writer, most)
