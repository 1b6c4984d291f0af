"""What traffic comes to: crossings, failures, distances, and until when bridges bear."""

from wornbridges.checks import check_bridge, check_count, check_kind, check_load, check_number, check_place
from wornbridges.phases import coming_trips, earlier, kinds_crossing, kinds_failing, trips_of_kind
from wornbridges.routes import reached_places, route_length


def _crossing_parts(traffic, bridge):
    """Return a list of (first trip, last trip, kinds that cross a bridge) for all phases."""
    return [(first, last, kinds_crossing(routes, bridge)) for first, last, routes in traffic.phases()]


def _failing_parts(traffic):
    """Return a list of (first trip, last trip, kinds that fail) for all phases."""
    return [(first, last, kinds_failing(routes)) for first, last, routes in traffic.phases()]


def _total(parts, size, count):
    """Return how many of the first so many trips are of the kinds of their part."""
    total = 0
    for first, last, kinds in parts:
        if first <= count:
            end = earlier(last, count)
            total += sum([trips_of_kind(kind, size, first, end) for kind in kinds])
    return total


def _nth(parts, size, number):
    """Return the number of the trip that is, with a number, of the kinds of its part, or None."""
    before = 0
    for first, last, kinds in parts:
        if kinds:
            rounds, at = divmod(number - before - 1, len(kinds))
            found = coming_trips(kinds, size, first)[at] + rounds * size
            if last is None or found <= last:
                return found
            before += sum([trips_of_kind(kind, size, first, last) for kind in kinds])
    return None


def crossings(traffic, bridge, count):
    """Return how many of the first so many trips cross a bridge."""
    check_bridge(traffic.town, bridge)
    check_count(count)
    return _total(_crossing_parts(traffic, bridge), len(traffic.trips), count)


def nth_crossing(traffic, bridge, number):
    """Return the number of the trip that crosses a bridge as the one with a number, or None."""
    check_bridge(traffic.town, bridge)
    check_number(number)
    return _nth(_crossing_parts(traffic, bridge), len(traffic.trips), number)


def failures(traffic, count):
    """Return how many of the first so many trips fail."""
    check_count(count)
    return _total(_failing_parts(traffic), len(traffic.trips), count)


def nth_failure(traffic, number):
    """Return the number of the failing trip with a number, or None."""
    check_number(number)
    return _nth(_failing_parts(traffic), len(traffic.trips), number)


def distance(traffic, count):
    """Return the total length of the routes of the first so many trips."""
    check_count(count)
    total = 0
    for first, last, routes in traffic.phases():
        if first <= count:
            end = earlier(last, count)
            for kind, route in enumerate(routes):
                if route is not None:
                    times = trips_of_kind(kind, len(routes), first, end)
                    total += times * route_length(traffic.town, route)
    return total


def never_crossed(traffic):
    """Return the ascending list of the bridges that no trip ever crosses."""
    size = len(traffic.trips)
    bridges = range(len(traffic.town.bridges))
    return [bridge for bridge in bridges if _nth(_crossing_parts(traffic, bridge), size, 1) is None]


def bears_until(traffic, bridge, load):
    """Return the smallest number of trips after which a bridge does not bear a load, or None."""
    check_bridge(traffic.town, bridge)
    check_load(load)
    for phase in traffic.moment.course.refined(load).all_phases():
        if phase.start_lives[bridge] < load:
            return phase.first - 1
    return None


def connected_until(traffic, one, other, load):
    """Return the smallest number of trips after which no route for a load connects two places, or None."""
    check_place(traffic.town, one)
    check_place(traffic.town, other)
    check_load(load)
    for phase in traffic.moment.course.refined(load).all_phases():
        if other not in reached_places(traffic.town, phase.start_lives, one, load):
            return phase.first - 1
    return None


def first_failure(traffic, kind):
    """Return the number of the first trip of a kind that fails, or None."""
    check_kind(traffic.trips, kind)
    parts = []
    for first, last, routes in traffic.phases():
        if routes[kind] is None:
            parts.append((first, last, [kind]))
    return _nth(parts, len(traffic.trips), 1)
