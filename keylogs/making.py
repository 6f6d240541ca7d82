"""A table is made of entries."""

from keylogs.blocks import BlockWriter
from keylogs.bloom import filter_of
from keylogs.handles import append_sealed
from keylogs.keyorder import key_behind, key_between
from keylogs.layout import filter_key, table_end


def data_blocks(entries, interval, size):
    """The data blocks, pairs of a block's keys and its bytes."""
    blocks = []
    writer = BlockWriter(interval)
    keys = []
    for key, value in entries:
        writer.put(key, value)
        keys.append(key)
        if writer.size() >= size:
            blocks.append((keys, writer.content()))
            writer = BlockWriter(interval)
            keys = []
    if keys != []:
        blocks.append((keys, writer.content()))
    return blocks


def index_keys(block_keys):
    """The index key of each data block."""
    chosen = []
    for i, keys in enumerate(block_keys):
        if i + 1 < len(block_keys):
            chosen.append(key_between(keys[-1], block_keys[i + 1][0]))
        else:
            chosen.append(key_behind(keys[-1]))
    return chosen


def index_content(block_keys, handles):
    """The index block's bytes."""
    index = BlockWriter(1)
    for key, handle in zip(index_keys(block_keys), handles):
        index.put(key, handle.packed())
    return index.content()


def table_of(entries, interval, size, bits):
    """The table of entries whose keys rise, with data blocks of about that size."""
    blocks = data_blocks(entries, interval, size)
    block_keys = [keys for keys, content in blocks]
    out = []
    begins = []
    handles = []
    for keys, content in blocks:
        begins.append(len(out))
        handles.append(append_sealed(out, content))
    meta = BlockWriter(interval)
    if bits > 0:
        handle = append_sealed(out, filter_of(begins, block_keys, len(out), bits))
        meta.put(filter_key(), handle.packed())
    meta_handle = append_sealed(out, meta.content())
    index_handle = append_sealed(out, index_content(block_keys, handles))
    out.extend(table_end(meta_handle, index_handle))
    return out
