"""Mends: which bridges must be mended so that trips pass."""

from itertools import combinations

from wornbridges.checks import MAX_COUNT, MAX_LOAD, check_count, check_trips
from wornbridges.counts import failures
from wornbridges.course import Moment
from wornbridges.errors import TooManyBridges
from wornbridges.traffic import Traffic

MOST_BRIDGES = 8


def _unlimited_traffic(town, trips, bridges):
    """Return traffic in which some bridges have an unlimited life from the beginning."""
    traffic = Traffic(town, trips)
    course = traffic.moment.course
    for bridge in bridges:
        # All trips that can be asked for wear a bridge by no more than this.
        course = course.changed(("mend", 0, bridge, MAX_COUNT * MAX_LOAD))
    traffic.moment = Moment(course, 0)
    return traffic


def fewest_mends(town, trips, count):
    """Return the shortest list of bridges by whose unlimited lives the first so many trips pass, or None."""
    check_trips(town, trips)
    size = len(town.bridges)
    if size > MOST_BRIDGES:
        raise TooManyBridges("the town has too many bridges")
    check_count(count)
    for many in range(size + 1):
        for bridges in combinations(range(size), many):
            if failures(_unlimited_traffic(town, trips, bridges), count) == 0:
                return list(bridges)
    return None
