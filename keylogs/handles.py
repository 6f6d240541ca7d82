"""Handles, and what they tell of: blocks and filters, each with five bytes behind it."""

from keylogs.checksum import masked, sum_from
from keylogs.errors import NoTable
from keylogs.packing import fixed, varint
from keylogs.scanning import Scanner

SEAL_WIDTH = 5


class Handle:
    """Where in a file something begins, and how long it is without its five bytes."""

    def __init__(self, begin, length):
        self.begin = begin
        self.length = length

    def behind(self):
        """Where what it tells of has ended, and its five bytes too."""
        return self.begin + self.length + SEAL_WIDTH

    def packed(self):
        return varint(self.begin) + varint(self.length)


def taken_handle(scanner):
    """The handle that comes next."""
    begin = scanner.taken_varint()
    length = scanner.taken_varint()
    return Handle(begin, length)


def handle_of(value):
    """The handle that a value is, with nothing behind it."""
    scanner = Scanner(value, 0, len(value))
    handle = taken_handle(scanner)
    if not scanner.at_end():
        raise NoTable()
    return handle


def seal_of(content):
    """The five bytes that stand behind content."""
    return [0] + fixed(masked(sum_from(sum_from(0, content), [0])), 4)


def content_at(file, end, handle):
    """What a handle tells of; it and its five bytes are ahead of end."""
    if handle.behind() > end:
        raise NoTable()
    content = file[handle.begin:handle.begin + handle.length]
    if file[handle.begin + handle.length:handle.behind()] != seal_of(content):
        raise NoTable()
    return content
