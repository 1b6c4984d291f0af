"""Towns: places, and bridges with a length and a life."""

from wornbridges.errors import InvalidText, InvalidTown
from wornbridges.words import read_numbers

MAX_LENGTH = 99


class Town:
    """A town with numbered places and numbered bridges."""

    MAX_PLACES = 12
    MAX_BRIDGES = 24
    # 10 ** 18, written out because a class value is a plain value.
    MAX_LIFE = 1000000000000000000

    def __init__(self, count, bridges):
        if not 1 <= count <= self.MAX_PLACES:
            raise InvalidTown("count", 0)
        for index, bridge in enumerate(bridges):
            if index == self.MAX_BRIDGES or not self.is_bridge(count, bridge):
                raise InvalidTown("bridges", index)
        self._count = count
        self._bridges = tuple(bridges)

    @property
    def place_count(self):
        """Return the number of places."""
        return self._count

    @property
    def bridges(self):
        """Return the tuple of the bridges (one, other, length, life)."""
        return self._bridges

    @property
    def lives(self):
        """Return the tuple of the lives of all bridges."""
        return tuple([bridge[3] for bridge in self._bridges])

    @property
    def text(self):
        """Return the text of the town, from which parse makes it again."""
        lines = [f"places {self._count}"]
        for one, other, length, life in self._bridges:
            lines.append(f"bridge {one} {other} {length} {life}")
        return "\n".join(lines)

    @staticmethod
    def is_bridge(count, bridge):
        """Return whether a tuple is a bridge of a town with so many places."""
        if len(bridge) != 4:
            return False
        one, other, length, life = bridge
        if not 0 <= one < count or not 0 <= other < count or one == other:
            return False
        return 1 <= length <= MAX_LENGTH and 0 <= life <= Town.MAX_LIFE

    @classmethod
    def parse(cls, text):
        """Return the town of a text."""
        rows = []
        for row, line in enumerate(text.split("\n")):
            numbers = read_numbers(line, "bridge N N N N" if row > 0 else "places N")
            if numbers is None:
                raise InvalidText(row)
            rows.append(tuple(numbers))
        return cls(rows[0][0], tuple(rows[1:]))
