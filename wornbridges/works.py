"""Works: plans of changes of one bridge."""

from wornbridges.checks import MAX_COUNT
from wornbridges.errors import InvalidWork


def _check_range(number, low, high):
    """Raise InvalidWork for a number that is not from low to high."""
    if not low <= number <= high:
        raise InvalidWork(0)


class Work:
    """A work at a bridge, at a position. Its kinds tell what is changed; a work of no kind changes nothing."""

    WORD = "work"
    MAX_BRIDGE = 23

    def __init__(self, position, bridge):
        _check_range(position, 0, MAX_COUNT)
        _check_range(bridge, 0, self.MAX_BRIDGE)
        self._first = position
        self._bridge = bridge

    @property
    def position_planned(self):
        """Return the first position."""
        return self._first

    @property
    def last_planned(self):
        """Return the last position."""
        return self._first

    @property
    def bridge_planned(self):
        """Return the bridge."""
        return self._bridge

    @property
    def line(self):
        """Return the text of the work."""
        return f"at {self._first} {self.WORD} {self._bridge}"

    def planned(self):
        """Yield the changes in order, as tuples like those of Traffic.changes."""
        changes = self._changes_planned()
        yield from changes

    def _changes_planned(self):
        """Return the list of the changes in order."""
        return []


class Closing(Work):
    """A work that closes a bridge."""

    WORD = "close"

    def _changes_planned(self):
        """Return the list of the changes in order."""
        return [(self.WORD, self._first, self._bridge)]


class Mending(Work):
    """A work that mends a bridge by an amount."""

    WORD = "mend"

    def __init__(self, position, bridge, amount):
        Work.__init__(self, position, bridge)
        _check_range(amount, 1, MAX_COUNT)
        self._amount = amount

    @property
    def line(self):
        """Return the text of the work."""
        return f"at {self._first} {self.WORD} {self._bridge} by {self._amount}"

    def _changes_planned(self):
        """Return the list of the changes in order."""
        return [self._mending_at(self._first)]

    def _mending_at(self, position):
        """Return the change at a position."""
        return (self.WORD, position, self._bridge, self._amount)


class Upkeep(Mending):
    """A work that mends a bridge several times, each time so many trips later."""

    WORD = "mend"
    MAX_TIMES = 50

    def __init__(self, position, bridge, amount, *, every, times):
        Mending.__init__(self, position, bridge, amount)
        _check_range(every, 1, MAX_COUNT)
        _check_range(times, 1, self.MAX_TIMES)
        self._last = position + every * (times - 1)
        _check_range(self._last, 0, MAX_COUNT)
        self._every = every
        self._times = times

    @property
    def last_planned(self):
        """Return the last position."""
        return self._last

    @property
    def line(self):
        """Return the text of the work."""
        start = f"at {self._first} {self.WORD} {self._bridge} by {self._amount}"
        return f"{start} every {self._every} times {self._times}"

    def _changes_planned(self):
        """Return the list of the changes in order."""
        return [self._mending_at(self._first + turn * self._every) for turn in range(self._times)]
