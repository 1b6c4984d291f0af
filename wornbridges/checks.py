"""Checks of arguments."""

from wornbridges.errors import InvalidLoad, UnknownBridge, UnknownPlace

MAX_LOAD = 9


def check_place(town, place):
    """Raise UnknownPlace for a number that is not a place's."""
    if not 0 <= place < town.place_count:
        raise UnknownPlace("the town has no such place")


def check_bridge(town, bridge):
    """Raise UnknownBridge for a number that is not a bridge's."""
    if not 0 <= bridge < len(town.bridges):
        raise UnknownBridge("the town has no such bridge")


def check_load(load):
    """Raise InvalidLoad for a load that is not from 1 to MAX_LOAD."""
    if not 1 <= load <= MAX_LOAD:
        raise InvalidLoad("the load is out of range")
