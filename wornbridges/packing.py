"""Packing: towns as bytes."""

from wornbridges.errors import InvalidCount, InvalidData
from wornbridges.towns import MAX_LENGTH, Town

MARK = 84
MAX_BYTE = 255
# A life is written in groups of seven bits; all but the last one are marked by adding 128.
GROUP = 128
LOW_BITS = 127
# A life with more groups, the last of which is not 0, is too great: 128 ** 9 is more than 10 ** 18.
MOST_GROUPS = 9


def pack_bytes(numbers):
    """Return the bytes of a list of integers."""
    for number in numbers:
        if not 0 <= number <= MAX_BYTE:
            raise InvalidCount("a number is not that of a byte")
    return bytes(numbers)


def unpack_bytes(data):
    """Return the list of the integers of bytes."""
    return list(data)


def _groups_of(life):
    """Return the list of the bytes of a life."""
    groups = []
    while life >= GROUP:
        life, low = divmod(life, GROUP)
        groups.append(low + GROUP)
    return [*groups, life]


def _checksum(numbers):
    """Return the list of the two bytes that are the checksum of the bytes before them."""
    checksum = 5
    for number in numbers:
        checksum = int(41 * checksum + number) % 65521
    return list(divmod(checksum, 256))


def encode_town(town):
    """Return the bytes of a town."""
    numbers = [MARK, town.place_count, len(town.bridges)]
    for one, other, length, life in town.bridges:
        numbers.extend([one, other, length] + _groups_of(life))
    return pack_bytes(numbers + _checksum(numbers))


class Reader:
    """Bytes that are read one after another."""

    def __init__(self, data):
        self._data = data
        self._at = 0

    def take(self, low, high):
        """Return the next byte, which is from low to high."""
        if self._at == len(self._data) or not low <= self._data[self._at] <= high:
            raise InvalidData(self._at)
        self._at += 1
        return self._data[self._at - 1]

    def take_other(self, one, high):
        """Return the next byte, which is from 0 to high, and another one than the one before it."""
        other = self.take(0, high)
        if other == one:
            raise InvalidData(self._at - 1)
        return other

    def take_life(self):
        """Return the life that comes next."""
        first = self._at
        groups = [self.take(0, MAX_BYTE)]
        while groups[-1] >= GROUP:
            # A further byte of 0 would be a last group of 0.
            groups.append(self.take(1, MAX_BYTE))
        life = 0
        for group in reversed(groups[:MOST_GROUPS]):
            life = life * GROUP + (group & LOW_BITS)
        if len(groups) > MOST_GROUPS or life > Town.MAX_LIFE:
            raise InvalidData(first)
        return life

    def take_end(self):
        """Take the checksum of all bytes before it, behind which the data ends."""
        checksum = _checksum(self._data[:self._at])
        for number in checksum:
            self.take(number, number)
        if self._at < len(self._data):
            raise InvalidData(self._at)


def _read_bridge(reader, count):
    """Return the bridge, in a town with so many places, that comes next."""
    one = reader.take(0, count - 1)
    other = reader.take_other(one, count - 1)
    length = reader.take(1, MAX_LENGTH)
    return (one, other, length, reader.take_life())


def decode_town(data):
    """Return the town of bytes."""
    reader = Reader(data)
    reader.take(MARK, MARK)
    count = reader.take(1, Town.MAX_PLACES)
    size = reader.take(0, Town.MAX_BRIDGES)
    bridges = []
    for _ in range(size):
        bridges.append(_read_bridge(reader, count))
    reader.take_end()
    return Town(count, tuple(bridges))
