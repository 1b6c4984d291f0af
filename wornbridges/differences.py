"""Differences: the first trip in which two lists of phases differ.

The phases are tuples (first trip, last trip or None, tuple of what belongs to trips of each kind).
"""

from math import lcm

from wornbridges.phases import earlier


def _first_split(first, last, told, others):
    """Return the number of the first trip from first to last of which the kinds differ, or None."""
    if told == others:
        return None
    # Both rounds together begin anew after so many trips.
    end = earlier(last, first + lcm(len(told), len(others)) - 1)
    for number in range(first, end + 1):
        if told[(number - 1) % len(told)] != others[(number - 1) % len(others)]:
            return number
    return None


def first_difference_of(phases_of_one, phases_of_other):
    """Return the number of the first trip that differs in two lists of all phases, or None."""
    first, at, beside = 1, 0, 0
    while True:
        _, end, told = phases_of_one[at]
        _, other_end, others = phases_of_other[beside]
        last = earlier(end, other_end)
        number = _first_split(first, last, told, others)
        if number is not None or last is None:
            return number
        first = last + 1
        if end == last:
            at += 1
        if other_end == last:
            beside += 1
