"""Tables are merged into one."""

from keylogs.answers import TOO_LONG
from keylogs.asking import total_entries
from keylogs.making import TableWriter, finished_table
from keylogs.packing import number_at
from keylogs.scanning import Scanner
from keylogs.tables import Table

LENGTH_WIDTH = 4


class Source:
    """One of several tables, and which of them it is."""

    def __init__(self, place, file):
        self.place = place
        self.table = Table(file)

    def comes_before(self, other):
        """Whether its entry is taken before the other's; of equal keys the first table's is."""
        mine = self.table.block.key
        yours = other.table.block.key
        return mine < yours or (mine == yours and self.place < other.place)


class Merger:
    """The entries of several tables, gone through in the order of their keys, of each key the first table's."""

    def __init__(self, files):
        # The source whose entry is taken next stands last.
        self.sources = []
        self.key = []
        self.value = []
        self.known = 0
        for place, file in enumerate(files):
            self.go_on(Source(place, file))

    def go_on(self, source):
        """Goes to a source's next entry, and puts it among those that have one."""
        if not source.table.advance():
            return
        low = 0
        high = len(self.sources)
        while low < high:
            middle = (low + high) // 2
            if source.comes_before(self.sources[middle]):
                low = middle + 1
            else:
                high = middle
        self.sources.insert(low, source)

    def advance(self):
        """Goes to the next key's entry; False, if there's none."""
        if self.sources == []:
            return False
        first = self.sources.pop()
        # The table's own key changes as it's gone through.
        self.key = list(first.table.block.key)
        self.value = first.table.block.value
        # What it has in common with its own table's key before, it has with all between, so with the last one taken.
        self.known = first.table.block.shared
        self.go_on(first)
        while self.sources != [] and self.sources[-1].table.block.key == self.key:
            self.go_on(self.sources.pop())
        return True


def files_of(data):
    """The files that stand one behind another, each with its length before it."""
    files = []
    scanner = Scanner(data, 0, len(data))
    while not scanner.at_end():
        length = number_at(scanner.taken(LENGTH_WIDTH), 0, LENGTH_WIDTH)
        files.append(scanner.taken(length))
    return files


def merged_table(files, interval, size, bits, most):
    """How long the table of all entries of files is, and it; a refusal, if it's longer than most."""
    # Each is read whole before any is merged, for what's no table is told before what's too long.
    for file in files:
        total_entries(file)
    merger = Merger(files)
    writer = TableWriter(interval, size, bits)
    while merger.advance():
        writer.put(merger.key, merger.value, merger.known)
        # A few bytes may stand for many long keys, so what's far too long isn't written to its end.
        if writer.reached() > most:
            return [TOO_LONG]
    return finished_table(writer, most)
