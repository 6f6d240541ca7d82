"""The calls: each takes and answers whole numbers and lists of them, and keeps nothing."""

from keylogs.answers import KEY_TOO_LONG, LOG_DAMAGED, LOG_ENDS, NO_ROWS, NO_TABLE, NOT_THERE, OUT_OF_RANGE
from keylogs.answers import TOO_LONG, with_length
from keylogs.asking import entry_at, may_have, total_entries, value_of
from keylogs.checksum import sum_from
from keylogs.errors import LogDamaged, LogEnds, NoTable
from keylogs.limits import is_key_length, is_length, is_shape, within
from keylogs.logs import record_at, record_from
from keylogs.making import made_table
from keylogs.merging import files_of, merged_table
from keylogs.rows import entries_of, row_of


def sum_of(start, data):
    """The sum of data, gone on with from start, the sum of the bytes before."""
    if not is_length(len(data)):
        return [0]
    return [sum_from(start, data)]


def make(interval, block, bits, most, rows):
    """The table of the rows' entries, its length ahead of it, or a refusal."""
    if not (is_length(len(rows)) and is_length(most) and is_shape(interval, block, bits)):
        return [OUT_OF_RANGE]
    entries = entries_of(rows)
    if entries is None:
        return [NO_ROWS]
    return made_table(entries, interval, block, bits, most)


def count(table):
    """How many entries the table has, or a refusal."""
    if not is_length(len(table)):
        return [OUT_OF_RANGE]
    try:
        return [total_entries(table)]
    except NoTable:
        return [NO_TABLE]


def get(most, table, key):
    """The key's value in the table, its length ahead of it, or a refusal."""
    if not (is_length(len(table)) and is_key_length(len(key)) and is_length(most)):
        return [OUT_OF_RANGE]
    try:
        value = value_of(table, key)
    except NoTable:
        return [NO_TABLE]
    if value is None:
        return [NOT_THERE]
    return with_length(value, most)


def at(i, most, table):
    """Entry i of the table as a row, its length ahead of it, or a refusal."""
    if not (is_length(len(table)) and i >= 0 and is_length(most)):
        return [OUT_OF_RANGE]
    try:
        entry = entry_at(table, i)
    except NoTable:
        return [NO_TABLE]
    if entry is None:
        return [NOT_THERE]
    if not is_key_length(len(entry[0])):
        return [KEY_TOO_LONG]
    return with_length(row_of(entry[0], entry[1]), most)


def may(table, key):
    """1, if the key may be in the table, or 0, if its index or filter says that it isn't; or a refusal."""
    if not (is_length(len(table)) and is_key_length(len(key))):
        return [OUT_OF_RANGE]
    try:
        return [1 if may_have(table, key) else 0]
    except NoTable:
        return [NO_TABLE]


def merge(interval, block, bits, most, files):
    """The table of all the files' entries, its length ahead of it, or a refusal."""
    if not (is_length(len(files)) and is_length(most) and is_shape(interval, block, bits)):
        return [OUT_OF_RANGE]
    try:
        return merged_table(files_of(files), interval, block, bits, most)
    except NoTable:
        return [NO_TABLE]


def write(place, most, data):
    """What's to be written for a record at a place in a log, its length ahead of it, or a refusal."""
    if not (is_length(len(data)) and place >= 0 and is_length(most)):
        return [OUT_OF_RANGE]
    return with_length(record_at(place, data), most)


def read(place, most, log):
    """The record that begins at a place in a log, its length ahead of it and the next place behind it, or a refusal."""
    if not (is_length(len(log)) and within(place, 0, len(log)) and is_length(most)):
        return [OUT_OF_RANGE]
    try:
        found = record_from(log, place)
    except LogEnds:
        return [LOG_ENDS]
    except LogDamaged:
        return [LOG_DAMAGED]
    record = found[0]
    end = found[1]
    if len(record) > most:
        return [TOO_LONG]
    return [len(record)] + record + [end]
