"""Phases: trips, one after another, before each of which the same bridges bear each load of the round."""


class Phase:
    """A phase: its first and its last trip, the route of each kind, and the lives before its first trip.

    The last trip is None if the phase never ends. The changes before the first trip are made in the lives.
    """

    def __init__(self, first, last, kind_routes, start_lives):
        self.first = first
        self.last = last
        self.kind_routes = kind_routes
        self.start_lives = start_lives


def earlier(one, other):
    """Return the smaller one of two numbers of trips, either of which may be None for never."""
    if one is None:
        return other
    if other is None:
        return one
    return min(one, other)


def trips_of_kind(kind, size, first, last):
    """Return how many of the trips from first to last are of a kind, if the round has a size."""
    # Trips of the kind have the numbers kind + 1, kind + 1 + size, and so on.
    return (last - kind - 1) // size - (first - kind - 2) // size


def coming_trips(kinds, size, first):
    """Return the ascending list of the numbers of the next trip of each of some kinds, from first on."""
    return sorted([first + (kind + 1 - first) % size for kind in kinds])


def kinds_crossing(kind_routes, bridge):
    """Return the list of the kinds that cross a bridge."""
    return [kind for kind, route in enumerate(kind_routes) if route is not None and bridge in route]


def kinds_failing(kind_routes):
    """Return the list of the kinds that fail."""
    return [kind for kind, route in enumerate(kind_routes) if route is None]


def worn_lives(trips, phase, last):
    """Return the tuple of the lives after a last trip, which is in the phase or just before it."""
    lives = list(phase.start_lives)
    for kind, route in enumerate(phase.kind_routes):
        if route is not None:
            times = trips_of_kind(kind, len(trips), phase.first, last)
            for bridge in route:
                lives[bridge] -= times * trips[kind][2]
    return tuple(lives)


def _spare_life(life, loads):
    """Return by how much the life of a bridge that bears a load may decrease before it bears fewer loads."""
    return life - max([load for load in loads if load <= life])


def _wearing_trip(trips, kinds, first, spare):
    """Return the number of the first trip after which trips of some kinds have worn more than what is spare."""
    size = len(trips)
    rounds, spare = divmod(spare, sum([trips[kind][2] for kind in kinds]))
    wearing = first
    for number in coming_trips(kinds, size, first):
        if spare >= 0:
            spare -= trips[(number - 1) % size][2]
            wearing = number
    return wearing + rounds * size


def last_trip(trips, loads, kind_routes, lives, first):
    """Return the number of the first trip after which a bridge no longer bears one of the loads, or None."""
    last = None
    for bridge, life in enumerate(lives):
        kinds = kinds_crossing(kind_routes, bridge)
        if kinds:
            last = earlier(last, _wearing_trip(trips, kinds, first, _spare_life(life, loads)))
    return last
