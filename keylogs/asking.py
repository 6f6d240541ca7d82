"""A table is asked; whatever is asked, it's read whole, for it's refused where it's no table."""

from keylogs.blocks import BlockReader
from keylogs.bloom import filter_may_have
from keylogs.tables import Table


def total_entries(file):
    """How many entries a table has."""
    table = Table(file)
    total = 0
    while table.advance():
        total += 1
    return total


def value_of(file, key):
    """The value of a key in a table; None, if the key isn't there."""
    table = Table(file)
    value = None
    while table.advance():
        if table.block.key == key:
            value = table.block.value
    return value


def entry_at(file, i):
    """Entry i of a table, a pair of key and value; None, if there are no more than i."""
    table = Table(file)
    entry = None
    place = 0
    while table.advance():
        if place == i:
            # The table's own key changes as it's gone through.
            entry = (list(table.block.key), table.block.value)
        place += 1
    return entry


def handle_for(table, key):
    """The handle of the data block with the first index key from key on; None, if no index key is."""
    reader = BlockReader(table.index_block)
    for handle in table.handles:
        reader.advance()
        if reader.key >= key:
            return handle
    return None


def may_have(file, key):
    """Whether a table's index and filter say that the key may be there."""
    table = Table(file)
    while table.advance():
        pass
    handle = handle_for(table, key)
    if handle is None:
        return False
    return table.filter_bytes is None or filter_may_have(table.filter_bytes, handle.begin, key)
