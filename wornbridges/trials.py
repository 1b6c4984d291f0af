"""Trials: what closing or mending a bridge changes, without changing it for good."""

from wornbridges.differences import first_difference_of


class Kept:
    """A moment of traffic to come back to, and the one that was kept before it, or None."""

    def __init__(self, moment, outer):
        self.moment = moment
        self.outer = outer


class Closed:
    """Traffic with a bridge closed at the position, for a block."""

    def __init__(self, traffic, bridge):
        self._traffic = traffic
        self._bridge = bridge
        self._kept = None

    def __enter__(self):
        kept = Kept(self._traffic.moment, self._kept)
        self._traffic.close(self._bridge)
        self._kept = kept
        return self._traffic

    def __exit__(self, *told):
        traffic = self._traffic
        traffic.moment = self._kept.moment
        self._kept = self._kept.outer


class Mended:
    """Traffic with a bridge mended at the position, for a block."""

    def __init__(self, traffic, bridge, amount):
        self._traffic = traffic
        self._bridge = bridge
        self._amount = amount
        self._kept = None

    def __enter__(self):
        kept = Kept(self._traffic.moment, self._kept)
        self._traffic.mend(self._bridge, self._amount)
        self._kept = kept
        return self._traffic

    def __exit__(self, *told):
        traffic = self._traffic
        traffic.moment = self._kept.moment
        self._kept = self._kept.outer


def effect_of_closing(traffic, bridge):
    """Return the number of the first trip that changes if a bridge is closed at the position, or None."""
    before = list(traffic.phases())
    with Closed(traffic, bridge):
        after = list(traffic.phases())
    return first_difference_of(before, after)


def effect_of_mending(traffic, bridge, amount):
    """Return the number of the first trip that changes if a bridge is mended at the position, or None."""
    before = list(traffic.phases())
    with Mended(traffic, bridge, amount):
        after = list(traffic.phases())
    return first_difference_of(before, after)


def first_difference(one, other):
    """Return the number of the first trip of which the routes differ in two traffics, or None."""
    return first_difference_of(list(one.phases()), list(other.phases()))
