"""Bytes of a table are gone through from their beginning to their end."""

from keylogs.errors import NoTable

LONGEST_VARINT = 10
VARINT_LIMIT = 0x8000000000000000


class Scanner:
    """Bytes of data from a place up to an end, taken one after another; none behind the end."""

    def __init__(self, data, place, end):
        self.data = data
        self.place = place
        self.end = end

    def at_end(self):
        return self.place == self.end

    def taken(self, length):
        """The next so many bytes."""
        begin = self.place
        if length > self.end - begin:
            raise NoTable()
        self.place = begin + length
        return self.data[begin:begin + length]

    def taken_varint(self):
        """The number that the next varint tells."""
        number = 0
        for step in range(LONGEST_VARINT):
            if self.at_end():
                raise NoTable()
            byte = self.data[self.place]
            self.place += 1
            number += (byte & 127) << (7 * step)
            if byte < 128:
                if number >= VARINT_LIMIT:
                    raise NoTable()
                return number
        raise NoTable()
