"""A table is asked; whatever is asked, it's read whole, for it's refused where it's no table."""

from keylogs.tables import Table


def total_entries(file):
    """How many entries a table has."""
    table = Table(file)
    total = 0
    while table.advance():
        total += 1
    return total


def value_of(file, key):
    """The value of a key in a table; None, if the key isn't there."""
    table = Table(file)
    value = None
    while table.advance():
        if table.block.key == key:
            value = table.block.value
    return value
