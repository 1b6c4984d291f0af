"""Schedules: several works, and the traffic in which they are done."""

from wornbridges.errors import InvalidText, InvalidWork
from wornbridges.traffic import Traffic
from wornbridges.trials import first_difference
from wornbridges.words import read_numbers
from wornbridges.works import Closing, Mending, Upkeep


def _line_numbers(line):
    """Return the list of the numbers of a line, or None if it is not the line of a work."""
    for form in ("at N close N", "at N mend N by N", "at N mend N by N every N times N"):
        numbers = read_numbers(line, form)
        if numbers is not None:
            return numbers
    return None


def _work_of(numbers):
    """Return the work of a line with some numbers."""
    match numbers:
        case [position, bridge]:
            return Closing(position, bridge)
        case [position, bridge, amount]:
            return Mending(position, bridge, amount)
        case [position, bridge, amount, every, times]:
            return Upkeep(position, bridge, amount, every=every, times=times)


class Schedule:
    """A schedule: works, and all changes that they plan."""

    MAX_WORKS = 20
    MAX_CHANGES = 60

    def __init__(self, *works):
        changes = []
        for index, work in enumerate(works):
            changes.extend(list(work.planned()))
            if index == self.MAX_WORKS or len(changes) > self.MAX_CHANGES:
                raise InvalidWork(index)
        self._works = works
        # Sorting leaves changes at the same position in the order of the works.
        self._changes = sorted(changes, key=lambda change: change[1])

    @property
    def works(self):
        """Return the tuple of all works."""
        return self._works

    @property
    def change_count(self):
        """Return the number of all changes."""
        return len(self._changes)

    @property
    def text(self):
        """Return the lines of the works, from which parse makes the schedule again."""
        return "\n".join([work.line for work in self._works])

    @classmethod
    def parse(cls, text):
        """Return the schedule of a text."""
        works = []
        lines = text.split("\n") if text else []
        for row, line in enumerate(lines):
            numbers = _line_numbers(line)
            if numbers is None:
                raise InvalidText(row)
            try:
                works.append(_work_of(numbers))
            except InvalidWork:
                raise InvalidWork(row) from None
        return cls(*works)

    def planned(self):
        """Yield all changes by their positions, at the same position in the order of the works."""
        yield from self._changes

    def joined(self, *others):
        """Return the schedule of the works of this schedule and of others, one schedule after another."""
        works = list(self._works)
        for other in others:
            works.extend(other.works)
        return Schedule(*works)


def _traffic_with(town, trips, changes):
    """Return traffic at position 0 with some changes, made in order."""
    traffic = Traffic(town, trips)
    for change in changes:
        traffic.go_to(change[1])
        if change[0] == "close":
            traffic.close(change[2])
        else:
            traffic.mend(change[2], change[3])
    traffic.go_to(0)
    return traffic


def scheduled_traffic(town, trips, schedule):
    """Return new traffic with all changes of a schedule, at position 0."""
    changes = list(schedule.planned())
    return _traffic_with(town, trips, changes)


def first_effects(town, trips, schedule):
    """Return for each change the number of the first trip that differs if only it is left out, or None."""
    changes = list(schedule.planned())
    wanted = _traffic_with(town, trips, changes)
    found = []
    for at in range(len(changes)):
        fewer = changes[:at] + changes[at + 1:]
        found.append(first_difference(wanted, _traffic_with(town, trips, fewer)))
    return found


def needed_changes(town, trips, schedule):
    """Return the list of the changes that remain if each one that is not needed is left out, from the last one on."""
    changes = list(schedule.planned())
    wanted = _traffic_with(town, trips, changes)
    remaining = changes
    for at in reversed(range(len(changes))):
        fewer = remaining[:at] + remaining[at + 1:]
        if first_difference(wanted, _traffic_with(town, trips, fewer)) is None:
            remaining = fewer
    return remaining
