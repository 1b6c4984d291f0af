"""Checks of arguments."""

from wornbridges.errors import InvalidCount, InvalidLoad, InvalidTrips, UnknownBridge, UnknownKind, UnknownPlace

MAX_LOAD = 9
MAX_TRIPS = 8
# 10 ** 18, the greatest number of trips, and of all that is counted by numbers from 1 on.
MAX_COUNT = 1000000000000000000


def check_place(town, place):
    """Raise UnknownPlace for a number that is not a place's."""
    if not 0 <= place < town.place_count:
        raise UnknownPlace("the town has no such place")


def check_bridge(town, bridge):
    """Raise UnknownBridge for a number that is not a bridge's."""
    if not 0 <= bridge < len(town.bridges):
        raise UnknownBridge("the town has no such bridge")


def check_load(load):
    """Raise InvalidLoad for a load that is not from 1 to MAX_LOAD."""
    if not 1 <= load <= MAX_LOAD:
        raise InvalidLoad("the load is out of range")


def check_count(count):
    """Raise InvalidCount for a number of trips that is not from 0 to MAX_COUNT."""
    if not 0 <= count <= MAX_COUNT:
        raise InvalidCount("the number of trips is out of range")


def check_number(number):
    """Raise InvalidCount for a number of a trip, a crossing or the like that is not from 1 to MAX_COUNT."""
    if not 1 <= number <= MAX_COUNT:
        raise InvalidCount("the number is out of range")


def _is_trip(town, trip):
    """Return whether a trip leads between places of a town, with a load in range."""
    start, end, load = trip
    return 0 <= start < town.place_count and 0 <= end < town.place_count and 1 <= load <= MAX_LOAD


def check_trip(town, trip):
    """Raise InvalidTrips(0) for a trip that is not one of the town."""
    if not _is_trip(town, trip):
        raise InvalidTrips(0)


def check_trips(town, trips):
    """Raise InvalidTrips for a wrong number of trips (-1), or with the index of the first wrong trip."""
    if not 1 <= len(trips) <= MAX_TRIPS:
        raise InvalidTrips(-1)
    for index, trip in enumerate(trips):
        if not _is_trip(town, trip):
            raise InvalidTrips(index)


def check_kind(trips, kind):
    """Raise UnknownKind for a number that is not an index of the round."""
    if not 0 <= kind < len(trips):
        raise UnknownKind("the round has no such trip")
