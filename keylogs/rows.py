"""Rows: entries one behind another, each with its lengths before it."""

from keylogs.packing import fixed, number_at

KEY_WIDTH = 2
VALUE_WIDTH = 4


def entries_of(rows):
    """The rows' entries, pairs of key and value; None, if they aren't rows whose keys rise."""
    entries = []
    begin = 0
    while begin < len(rows):
        key_begin = begin + KEY_WIDTH + VALUE_WIDTH
        if key_begin > len(rows):
            return None
        value_begin = key_begin + number_at(rows, begin, KEY_WIDTH)
        end = value_begin + number_at(rows, begin + KEY_WIDTH, VALUE_WIDTH)
        if end > len(rows):
            return None
        key = rows[key_begin:value_begin]
        # Lists of bytes compare just as keys are in order: a beginning comes first.
        if entries != [] and key <= entries[-1][0]:
            return None
        entries.append((key, rows[value_begin:end]))
        begin = end
    return entries


def row_of(key, value):
    """The row of an entry."""
    return fixed(len(key), KEY_WIDTH) + fixed(len(value), VALUE_WIDTH) + key + value
