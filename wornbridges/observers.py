"""Observers: what somebody who counts at the bridges can conclude about the town."""

from wornbridges.checks import check_bridge, check_count, check_number
from wornbridges.counts import crossings
from wornbridges.differences import first_difference_of
from wornbridges.errors import Contradiction, DifferentTowns, InvalidCount
from wornbridges.traffic import Traffic

MOST_TOWNS = 50


def _crosses(route, bridge):
    """Return whether a route, or None, crosses a bridge."""
    return route is not None and bridge in route


def _sights(traffic, bridge):
    """Return a list of (first trip, last trip, whether each kind crosses a bridge) for all phases."""
    found = []
    for first, last, routes in traffic.phases():
        found.append((first, last, tuple([_crosses(route, bridge) for route in routes])))
    return found


class Observer:
    """An observer, who knows some towns, one of which is the right one, and the round."""

    def __init__(self, towns, trips):
        if not 1 <= len(towns) <= MOST_TOWNS:
            raise InvalidCount("the number of towns is out of range")
        for town in towns:
            if town.place_count != towns[0].place_count or len(town.bridges) != len(towns[0].bridges):
                raise DifferentTowns("the towns differ in their number of places or of bridges")
        self._traffics = [Traffic(town, trips) for town in towns]
        self._remaining = list(range(len(towns)))
        self._accepted = []

    @property
    def candidates(self):
        """Return the ascending list of the indexes of the towns that may be the right one."""
        return list(self._remaining)

    @property
    def records(self):
        """Return the list of all observations, in order."""
        return list(self._accepted)

    def see_trip(self, bridge, number, crosses):
        """Record whether the trip with a number crosses a bridge, and return how many candidates remain."""
        self._check_bridge(bridge)
        check_number(number)
        told = [_crosses(self._traffics[index].route_of(number), bridge) for index in self._remaining]
        return self._accept(("trip", bridge, number, crosses), told)

    def see_total(self, bridge, count, total):
        """Record how many of the first so many trips cross a bridge, and return how many candidates remain."""
        self._check_bridge(bridge)
        check_count(count)
        told = [crossings(self._traffics[index], bridge, count) for index in self._remaining]
        return self._accept(("total", bridge, count, total), told)

    def next_sight(self, bridge):
        """Return the number of the first trip that crosses a bridge for some candidates only, or None."""
        self._check_bridge(bridge)
        told = [_sights(self._traffics[index], bridge) for index in self._remaining]
        # Where candidates do not agree, one of them does not agree with the first one.
        numbers = [first_difference_of(told[0], others) for others in told[1:]]
        return min([number for number in numbers if number is not None], default=None)

    def best_bridge(self):
        """Return the bridge with the smallest next sight, the first one of several, or None."""
        sights = [(self.next_sight(bridge), bridge) for bridge in range(len(self._traffics[0].town.bridges))]
        best = min([(number, bridge) for number, bridge in sights if number is not None], default=None)
        return None if best is None else best[1]

    def _check_bridge(self, bridge):
        """Raise UnknownBridge for a number that is not a bridge's."""
        check_bridge(self._traffics[0].town, bridge)

    def _accept(self, record, told):
        """Record what was seen, keep the candidates that tell the same, and return how many remain."""
        # What was seen is the last item of the record.
        remaining = [index for index, worth in zip(self._remaining, told) if worth == record[-1]]
        if not remaining:
            raise Contradiction("no candidate would remain")
        self._remaining = remaining
        self._accepted.append(record)
        return len(remaining)
