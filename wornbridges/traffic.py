"""Traffic: trips that are made in rounds and wear the bridges of a town."""

from wornbridges.checks import check_bridge, check_count, check_number, check_trips
from wornbridges.course import Course, Moment
from wornbridges.errors import InvalidCount, InvalidLife

# 10 ** 19, the greatest life of a bridge that has been mended.
MAX_MENDED_LIFE = 10000000000000000000
MAX_ROUTES = 1000


class Traffic:
    """The traffic of a town: a round of trips that are made one after another, for ever."""

    def __init__(self, town, trips):
        check_trips(town, trips)
        self._town = town
        self._trips = tuple(trips)
        loads = sorted({trip[2] for trip in trips})
        # All that may change stands in one object, which each change replaces as a whole.
        self.moment = Moment(Course(town, self._trips, loads, [], []), 0)

    @property
    def town(self):
        """Return the town."""
        return self._town

    @property
    def trips(self):
        """Return the round: the tuple of the trips (start, end, load)."""
        return self._trips

    @property
    def position(self):
        """Return the number of trips that have been made."""
        return self.moment.trips_made

    @position.setter
    def position(self, count):
        """Set the number of trips that have been made."""
        self.go_to(count)

    @property
    def lives(self):
        """Return the tuple of the remaining lives at the position."""
        return self.moment.lives_left

    @property
    def changes(self):
        """Return the list of all changes, in order."""
        return list(self.moment.course.changes_made)

    def go_to(self, count):
        """Set the number of trips that have been made."""
        check_count(count)
        self.moment = Moment(self.moment.course, count)

    def close(self, bridge):
        """Set the life of a bridge to 0, at the position."""
        check_bridge(self._town, bridge)
        self._change(("close", self.position, bridge))

    def mend(self, bridge, amount):
        """Increase the life of a bridge by an amount, at the position."""
        check_bridge(self._town, bridge)
        check_number(amount)
        if self.lives[bridge] + amount > MAX_MENDED_LIFE:
            raise InvalidLife("the life would be too great")
        self._change(("mend", self.position, bridge, amount))

    def _change(self, change):
        """Make a change at the position."""
        self.moment = Moment(self.moment.course.changed(change), self.position)

    def route_of(self, number):
        """Return the route of the trip with a number, or None if it fails."""
        check_number(number)
        return self.moment.course.phase_of(number).kind_routes[(number - 1) % len(self._trips)]

    def lives_after(self, count):
        """Return the tuple of the remaining lives after a number of trips and the changes made then."""
        check_count(count)
        return self.moment.course.lives_after(count)

    def routes(self, first, last):
        """Yield the routes of the trips from a first to a last number."""
        check_number(first)
        check_number(last)
        if not first <= last < first + MAX_ROUTES:
            raise InvalidCount("the number of routes is out of range")
        # All are found at once, lest a change between two of them mixes two courses.
        found = [self.route_of(number) for number in range(first, last + 1)]
        yield from found

    def phases(self):
        """Yield (first trip, last trip or None, routes of all kinds) for each phase."""
        for phase in self.moment.course.all_phases():
            yield (phase.first, phase.last, phase.kind_routes)
