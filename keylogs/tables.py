"""Tables are read strictly: what isn't as told in any way is refused."""

from keylogs.blocks import BlockReader
from keylogs.bloom import places_of
from keylogs.errors import NoTable
from keylogs.handles import content_at, handle_of
from keylogs.layout import END_WIDTH, end_handles, filter_key


class Table:
    """A table's parts, and its entries, gone through one after another.

    What's told of the parts by themselves holds once it's made; what's told of the entries holds once they've been
    gone through to the end.
    """

    def __init__(self, file):
        handles = end_handles(file)
        self.file = file
        self.limit = len(file) - END_WIDTH
        self.filter_bytes = filter_content(file, self.limit, handles[0])
        self.index_block = content_at(file, self.limit, handles[1])
        self.handles = data_handles(self.index_block)
        self.index_reader = BlockReader(self.index_block)
        self.begun = 0
        self.block = None

    def advance(self):
        """Goes to the next entry, that of its block; False, if there's none."""
        if self.block is not None:
            if self.block.advance():
                return True
            self.leave_block()
        if self.begun == len(self.handles):
            return False
        self.begin_block()
        return True

    def begin_block(self):
        """Goes to the next data block's first entry, which must be behind the index key before it."""
        self.block = BlockReader(content_at(self.file, self.limit, self.handles[self.begun]))
        if not self.block.advance():
            raise NoTable()
        if self.begun > 0 and self.block.key <= self.index_reader.key:
            raise NoTable()
        self.begun += 1

    def leave_block(self):
        """Goes to the index key of a data block that's gone through, which mustn't be before its last key."""
        self.index_reader.advance()
        if self.index_reader.key < self.block.key:
            raise NoTable()


def filter_content(file, limit, meta):
    """The filter that the meta block tells of; None, if it's empty."""
    reader = BlockReader(content_at(file, limit, meta))
    if not reader.advance():
        return None
    if reader.key != filter_key():
        raise NoTable()
    content = content_at(file, limit, handle_of(reader.value))
    places_of(content)
    if reader.advance():
        raise NoTable()
    return content


def data_handles(index_block):
    """The data blocks' handles in an index, each behind the one before and its five bytes."""
    handles = []
    end = 0
    reader = BlockReader(index_block)
    while reader.advance():
        handle = handle_of(reader.value)
        if handle.begin < end:
            raise NoTable()
        end = handle.behind()
        handles.append(handle)
    return handles
