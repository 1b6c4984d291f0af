"""Courses: the trips of a round with the changes between them, phase by phase."""

from wornbridges.phases import Phase, earlier, last_trip, worn_lives
from wornbridges.routes import shortest_route


def _routes_of_kinds(town, trips, lives, before):
    """Return the tuple of the routes that trips of each kind take with some lives, after the phase before."""
    found = []
    for kind, (start, end, load) in enumerate(trips):
        # A route depends only on which bridges bear the load, and mostly these are the same as before.
        if before is not None and _bearing(before.start_lives, load) == _bearing(lives, load):
            found.append(before.kind_routes[kind])
        else:
            found.append(shortest_route(town, lives, start, end, load))
    return tuple(found)


def _bearing(lives, load):
    """Return a list that tells for each bridge whether it bears a load."""
    return [life >= load for life in lives]


def _changed_lives(lives, changes):
    """Return the tuple of the lives after some changes."""
    changed = list(lives)
    for change in changes:
        bridge = change[2]
        changed[bridge] = 0 if change[0] == "close" else changed[bridge] + change[3]
    return tuple(changed)


class Course:
    """All trips of a round from the first one on, with changes between them.

    The changes are those of Traffic.changes, and found is the list of the first phases, as far as
    they are known. Phases end where a bridge no longer bears one of the loads, and at changes.
    """

    def __init__(self, town, trips, loads, changes, found):
        self._town = town
        self._trips = trips
        self._loads = loads
        self._found = found
        self.changes_made = changes

    def changed(self, change):
        """Return the course with one more change, without the changes at later positions."""
        position = change[1]
        changes = [made for made in self.changes_made if made[1] <= position]
        found = [phase for phase in self._found if phase.last is not None and phase.last <= position]
        return Course(self._town, self._trips, self._loads, [*changes, change], found)

    def refined(self, load):
        """Return the course with phases that end also where a bridge no longer bears a further load."""
        return Course(self._town, self._trips, [*self._loads, load], self.changes_made, [])

    def phase_of(self, number):
        """Return the phase to which the trip with a number, of any size, belongs."""
        at = 0
        phase = self._phase(at)
        while phase.last is not None and phase.last < number:
            at += 1
            phase = self._phase(at)
        return phase

    def all_phases(self):
        """Return the list of all phases."""
        at = 0
        while self._phase(at).last is not None:
            at += 1
        return list(self._found)

    def lives_after(self, count):
        """Return the tuple of the lives after a number of trips, and after the changes made then."""
        return worn_lives(self._trips, self.phase_of(count + 1), count)

    def _phase(self, at):
        """Return the phase with an index: one that is known, or the next one."""
        if at == len(self._found):
            self._found.append(self._next_phase())
        return self._found[at]

    def _next_phase(self):
        """Return the phase that follows the known ones."""
        before, position, lives = None, 0, self._town.lives
        if self._found:
            before = self._found[-1]
            position, lives = before.last, worn_lives(self._trips, before, before.last)
        lives = _changed_lives(lives, [change for change in self.changes_made if change[1] == position])
        kind_routes = _routes_of_kinds(self._town, self._trips, lives, before)
        worn = last_trip(self._trips, self._loads, kind_routes, lives, position + 1)
        return Phase(position + 1, earlier(worn, self._next_change(position)), kind_routes, lives)

    def _next_change(self, position):
        """Return the position of the first change after a position, or None."""
        return min([change[1] for change in self.changes_made if change[1] > position], default=None)


class Moment:
    """A course, the number of its trips that have been made, and the lives that are left then."""

    def __init__(self, course, trips_made):
        self.course = course
        self.trips_made = trips_made
        self.lives_left = course.lives_after(trips_made)
