"""Routes over the bridges that bear a load, for given remaining lives."""

from heapq import heappop, heappush

from wornbridges.checks import check_bridge, check_load, check_place


def _ways_from(town, remaining, place, load):
    """Return a list of (bridge, place beyond it, length) for the bridges at a place that bear a load."""
    ways = []
    for bridge, (one, other, length, _) in enumerate(town.bridges):
        if remaining[bridge] >= load and place in (one, other):
            ways.append((bridge, other if place == one else one, length))
    return ways


def _routes_from(town, remaining, start, load):
    """Return a dict of the places that are reached from a start, with the shortest route to each of them."""
    # Taking the least (length, route) is enough to find the first route in tuple order: as bridges
    # are at least 1 long, no route begins with another one of its length, and so two of them keep
    # their order when both go on.
    found = {}
    queue = [(0, (), start)]
    while queue:
        length, route, place = heappop(queue)
        if place not in found:
            found[place] = route
            for bridge, beyond, further in _ways_from(town, remaining, place, load):
                heappush(queue, (length + further, route + (bridge,), beyond))
    return found


def shortest_route(town, remaining, one, other, load):
    """Return the shortest route between two places, of several the first one in tuple order, or None."""
    check_place(town, one)
    check_place(town, other)
    check_load(load)
    return _routes_from(town, remaining, one, load).get(other)


def route_length(town, route):
    """Return the total length of a route."""
    for bridge in route:
        check_bridge(town, bridge)
    return sum([town.bridges[bridge][2] for bridge in route])


def reached_places(town, remaining, place, load):
    """Return the ascending list of the places to which a route leads from a place, itself included."""
    check_place(town, place)
    check_load(load)
    return sorted(list(_routes_from(town, remaining, place, load)))
