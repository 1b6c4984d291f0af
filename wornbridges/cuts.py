"""Cuts: how many trips can pass at most, and what shows it."""

from wornbridges.checks import check_trip
from wornbridges.counts import first_failure
from wornbridges.routes import reached_places


def _all_cuts(count, start, end):
    """Return the list of all cuts, as ascending lists, between two of so many places."""
    cuts = [[]]
    for place in range(count):
        if place == start:
            cuts = [cut + [place] for cut in cuts]
        elif place != end:
            cuts = cuts + [cut + [place] for cut in cuts]
    return cuts


def _leading_out(town, places):
    """Return the list of the bridges from inside to outside of some places."""
    leading = []
    for bridge, (one, other, _, _) in enumerate(town.bridges):
        if (one in places) != (other in places):
            leading.append(bridge)
    return leading


def trip_bound(town, trip):
    """Return (how many trips like one can pass at most, first cut that shows it), or None."""
    check_trip(town, trip)
    start, end, load = trip
    if start == end:
        return None
    bounds = []
    for cut in _all_cuts(town.place_count, start, end):
        bounds.append((sum([town.lives[bridge] // load for bridge in _leading_out(town, cut)]), cut))
    return min(bounds)


def _steps_from(town, room, place):
    """Return a list of (bridge, direction, place beyond it) for the bridges at a place with room that way.

    The direction is 0 from the first place of the bridge to the second one, otherwise 1; the
    room of each bridge is a list of two numbers of trips, one for each direction.
    """
    steps = []
    for bridge, (one, other, _, _) in enumerate(town.bridges):
        if place == one and room[bridge][0] > 0:
            steps.append((bridge, 0, other))
        if place == other and room[bridge][1] > 0:
            steps.append((bridge, 1, one))
    return steps


def _way_through(town, room, start, end):
    """Return a tuple of (bridge, direction), of the fewest possible, from start to end where there is room, or None."""
    ways = {start: ()}
    queue = [start]
    while queue:
        place = queue.pop(0)
        for bridge, direction, beyond in _steps_from(town, room, place):
            if beyond not in ways:
                ways[beyond] = ways[place] + ((bridge, direction),)
                queue.append(beyond)
    return ways.get(end)


def _greatest_flow(town, load, start, end):
    """Return for each bridge a list of two numbers: the trips that cross it in each direction, at least one 0."""
    most = [life // load for life in town.lives]
    room = [[number, number] for number in most]
    way = _way_through(town, room, start, end)
    while way is not None:
        times = min([room[bridge][direction] for bridge, direction in way])
        for bridge, direction in way:
            # Trips of opposite directions make room for each other: both may turn back.
            room[bridge][direction] -= times
            room[bridge][1 - direction] += times
        way = _way_through(town, room, start, end)
    return [[max(0, number - there), max(0, number - back)] for number, (there, back) in zip(most, room)]


def best_routes(town, trip):
    """Return a list of (route, times) by which as many trips like one pass as possible."""
    check_trip(town, trip)
    start, end, load = trip
    if start == end:
        return []
    flow = _greatest_flow(town, load, start, end)
    found = []
    way = _way_through(town, flow, start, end)
    while way is not None:
        times = min([flow[bridge][direction] for bridge, direction in way])
        for bridge, direction in way:
            flow[bridge][direction] -= times
        found.append((tuple([bridge for bridge, _ in way]), times))
        way = _way_through(town, flow, start, end)
    return found


def failing_cut(traffic, kind):
    """Return the ascending list of the places that the first failing trip of a kind can reach, or None."""
    number = first_failure(traffic, kind)
    if number is None:
        return None
    start, _, load = traffic.trips[kind]
    lives = traffic.moment.course.phase_of(number).start_lives
    return reached_places(traffic.town, lives, start, load)


def is_cut(town, remaining, trip, places):
    """Return whether places are a cut for a trip from which no bridge that bears its load leads outside."""
    check_trip(town, trip)
    start, end, load = trip
    if start not in places or end in places:
        return False
    return all([remaining[bridge] < load for bridge in _leading_out(town, places)])
