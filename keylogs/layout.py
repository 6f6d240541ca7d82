"""What stands at a fixed place in every table: its last 48 bytes, and the filter's name."""

from keylogs.errors import NoTable
from keylogs.handles import taken_handle
from keylogs.packing import fixed
from keylogs.scanning import Scanner

FILTER_NAME = "filter.leveldb.BuiltinBloomFilter2"
HANDLES_WIDTH = 40
MAGIC = 0xDB4775248B80FB57
MAGIC_WIDTH = 8
END_WIDTH = 48


def filter_key():
    """The meta block's key for the filter."""
    return [ord(sign) for sign in FILTER_NAME]


def table_end(meta, index):
    """The last 48 bytes of a table with these handles."""
    content = meta.packed() + index.packed()
    content.extend([0] * (HANDLES_WIDTH - len(content)))
    content.extend(fixed(MAGIC, MAGIC_WIDTH))
    return content


def end_handles(file):
    """The handles of meta and index in a table's last 48 bytes."""
    begin = len(file) - END_WIDTH
    magic_begin = begin + HANDLES_WIDTH
    if begin < 0 or file[magic_begin:] != fixed(MAGIC, MAGIC_WIDTH):
        raise NoTable()
    scanner = Scanner(file, begin, magic_begin)
    meta = taken_handle(scanner)
    index = taken_handle(scanner)
    return (meta, index)
