"""Points 8 and 9: crossings, failures, distances, and until when bridges bear and places are connected."""

import random
import unittest

from simulated import (
    Simulated, far_town, make_changes, random_changes, random_town, random_trips, tried_route,
)
from wornbridges.counts import (
    bears_until, connected_until, crossings, distance, failures, first_failure, never_crossed, nth_crossing,
    nth_failure,
)
from wornbridges.errors import InvalidCount, InvalidLoad, UnknownBridge, UnknownKind, UnknownPlace
from wornbridges.towns import Town
from wornbridges.traffic import Traffic

LIMIT = 10 ** 18
TOWN = Town(3, ((0, 1, 2, 10), (1, 2, 3, 4), (0, 2, 9, 7)))
TRIPS = ((0, 2, 1), (2, 1, 2))


def single(life, *trips):
    """Return traffic with one bridge."""
    return Traffic(Town(2, ((0, 1, 7, life),)), trips)


class CountsTest(unittest.TestCase):
    def setUp(self):
        self.traffic = Traffic(TOWN, TRIPS)

    def test_crossings(self):
        # The routes are 01, 1, 01, 20, 2, 20, 2, none, 2, and then none.
        for bridge, wanted in ((0, [0, 1, 1, 2, 3, 3, 4, 4, 4, 4]), (1, [0, 1, 2, 3, 3, 3, 3, 3, 3, 3]),
                               (2, [0, 0, 0, 0, 1, 2, 3, 4, 4, 5])):
            with self.subTest(bridge=bridge):
                self.assertEqual([crossings(self.traffic, bridge, count) for count in range(10)], wanted)
                self.assertEqual(crossings(self.traffic, bridge, LIMIT), wanted[-1])

    def test_nth_crossing(self):
        for bridge, wanted in ((0, [1, 3, 4, 6]), (1, [1, 2, 3]), (2, [4, 5, 6, 7, 9])):
            with self.subTest(bridge=bridge):
                numbers = range(1, len(wanted) + 1)
                self.assertEqual([nth_crossing(self.traffic, bridge, number) for number in numbers], wanted)
                self.assertIsNone(nth_crossing(self.traffic, bridge, len(wanted) + 1))
                self.assertIsNone(nth_crossing(self.traffic, bridge, LIMIT))

    def test_failures(self):
        self.assertEqual([failures(self.traffic, count) for count in range(13)], [0] * 8 + [1, 1, 2, 3, 4])
        self.assertEqual(failures(self.traffic, LIMIT), LIMIT - 8)
        self.assertEqual([nth_failure(self.traffic, number) for number in range(1, 5)], [8, 10, 11, 12])
        self.assertEqual(nth_failure(self.traffic, LIMIT - 8), LIMIT)
        self.assertEqual(nth_failure(self.traffic, LIMIT), LIMIT + 8)

    def test_no_failures(self):
        traffic = single(5, (0, 0, 1))
        self.assertEqual((failures(traffic, LIMIT), nth_failure(traffic, 1)), (0, None))
        self.assertIsNone(nth_failure(traffic, LIMIT))

    def test_distance(self):
        wanted = [0, 5, 8, 13, 24, 33, 44, 53, 53, 62, 62, 62]
        self.assertEqual([distance(self.traffic, count) for count in range(12)], wanted)
        self.assertEqual(distance(self.traffic, LIMIT), 62)

    def test_never_crossed(self):
        town = Town(3, ((0, 1, 1, 9), (0, 1, 2, 0), (1, 2, 1, 9), (0, 1, 9, 3), (1, 2, 1, 1)))
        self.assertEqual(never_crossed(Traffic(town, ((0, 1, 2),))), [1, 2, 4])
        self.assertEqual(never_crossed(Traffic(town, ((0, 0, 1),))), [0, 1, 2, 3, 4])
        self.assertEqual(never_crossed(Traffic(town, ((0, 2, 1),))), [1])
        self.assertEqual(never_crossed(Traffic(Town(1, ()), ((0, 0, 1),))), [])

    def test_never_crossed_counts_only_trips_that_are_made(self):
        # In the first phase, trip 1 alone, the second kind would cross bridge 1, but does not come to it.
        town = Town(3, ((0, 1, 1, 9), (1, 2, 1, 9)))
        traffic = Traffic(town, ((0, 1, 1), (1, 2, 1)))
        traffic.go_to(1)
        traffic.close(1)
        self.assertEqual(list(traffic.phases())[0], (1, 1, ((0,), (1,))))
        self.assertEqual(never_crossed(traffic), [1])
        self.assertEqual((crossings(traffic, 1, LIMIT), nth_crossing(traffic, 1, 1)), (0, None))

    def test_never_crossed_with_changes(self):
        traffic = single(0, (0, 1, 1))
        self.assertEqual(never_crossed(traffic), [0])
        traffic.go_to(LIMIT)
        traffic.mend(0, 1)
        traffic.go_to(0)
        self.assertEqual(never_crossed(traffic), [])
        self.assertEqual(nth_crossing(traffic, 0, 1), LIMIT + 1)
        self.assertEqual(crossings(traffic, 0, LIMIT), 0)

    def test_lists_are_the_callers(self):
        traffic = single(0, (0, 1, 1))
        never_crossed(traffic).clear()
        self.assertEqual(never_crossed(traffic), [0])

    def test_numbers_beyond_the_last_trip(self):
        traffic = single(LIMIT, *((0, 0, 1),) * 7, (0, 1, 1))
        self.assertEqual(nth_crossing(traffic, 0, LIMIT), 8 * LIMIT)
        self.assertEqual(first_failure(traffic, 7), 8 * LIMIT + 8)
        self.assertEqual(nth_failure(traffic, LIMIT), 16 * LIMIT)
        self.assertEqual(bears_until(traffic, 0, 1), 8 * LIMIT)
        self.assertEqual(connected_until(traffic, 1, 0, 1), 8 * LIMIT)
        self.assertEqual(distance(traffic, LIMIT), 7 * LIMIT // 8)


class UntilTest(unittest.TestCase):
    def setUp(self):
        self.traffic = Traffic(TOWN, TRIPS)

    def test_bears_until(self):
        for bridge, wanted in ((0, [None, None, None, None, 6, 6, 4, 4, 3]), (1, [3, 2, 2, 1, 0, 0, 0, 0, 0]),
                               (2, [9, 7, 6, 6, 5, 4, 4, 0, 0])):
            with self.subTest(bridge=bridge):
                self.assertEqual([bears_until(self.traffic, bridge, load) for load in range(1, 10)], wanted)

    def test_connected_until(self):
        for place in range(3):
            for load in (1, 9):
                self.assertIsNone(connected_until(self.traffic, place, place, load))
        self.assertEqual(connected_until(self.traffic, 0, 2, 1), 9)
        self.assertEqual(connected_until(self.traffic, 2, 0, 1), 9)
        self.assertIsNone(connected_until(self.traffic, 0, 1, 4))
        self.assertEqual(connected_until(self.traffic, 0, 1, 5), 6)
        self.assertEqual(connected_until(self.traffic, 0, 2, 8), 0)

    def test_with_the_changes_made_then(self):
        traffic = single(3, (0, 1, 1))
        self.assertEqual((bears_until(traffic, 0, 1), connected_until(traffic, 0, 1, 1)), (3, 3))
        traffic.go_to(3)
        traffic.mend(0, 2)
        self.assertEqual((bears_until(traffic, 0, 1), connected_until(traffic, 0, 1, 1)), (5, 5))
        self.assertEqual((bears_until(traffic, 0, 2), connected_until(traffic, 0, 1, 2)), (2, 2))
        self.assertEqual((bears_until(traffic, 0, 3), connected_until(traffic, 0, 1, 3)), (1, 1))
        traffic.close(0)
        self.assertEqual((bears_until(traffic, 0, 1), connected_until(traffic, 0, 1, 1)), (3, 3))
        # Only what has become of a bridge by all changes at a position counts.
        traffic.go_to(2)
        traffic.close(0)
        traffic.mend(0, 9)
        self.assertEqual((bears_until(traffic, 0, 1), connected_until(traffic, 0, 1, 1)), (11, 11))

    def test_at_the_beginning(self):
        traffic = single(0, (0, 1, 1))
        self.assertEqual((bears_until(traffic, 0, 1), connected_until(traffic, 0, 1, 1)), (0, 0))
        traffic.mend(0, 4)
        self.assertEqual((bears_until(traffic, 0, 1), connected_until(traffic, 0, 1, 1)), (4, 4))
        traffic.close(0)
        self.assertEqual((bears_until(traffic, 0, 1), connected_until(traffic, 0, 1, 1)), (0, 0))

    def test_at_a_far_change(self):
        traffic = single(5, (0, 0, 1))
        traffic.go_to(LIMIT)
        traffic.close(0)
        self.assertEqual((bears_until(traffic, 0, 5), connected_until(traffic, 0, 1, 5)), (LIMIT, LIMIT))
        self.assertEqual((bears_until(traffic, 0, 6), connected_until(traffic, 0, 1, 6)), (0, 0))
        traffic.mend(0, 5)
        self.assertEqual((bears_until(traffic, 0, 5), connected_until(traffic, 0, 1, 5)), (None, None))

    def test_loads_that_are_not_in_the_round(self):
        traffic = single(LIMIT, (0, 1, 3))
        for load in range(1, 10):
            with self.subTest(load=load):
                until = -(-(LIMIT - load + 1) // 3)
                self.assertEqual(bears_until(traffic, 0, load), None if load == 1 else until)
                self.assertEqual(connected_until(traffic, 0, 1, load), None if load == 1 else until)

    def test_first_failure(self):
        self.assertEqual([first_failure(self.traffic, kind) for kind in (0, 1)], [11, 8])
        self.assertIsNone(first_failure(single(5, (0, 0, 1), (0, 1, 1)), 0))
        self.assertEqual(first_failure(single(5, (0, 0, 1), (0, 1, 1)), 1), 12)
        self.assertEqual(first_failure(single(0, (0, 1, 1), (0, 1, 1)), 1), 2)

    def test_first_failure_is_that_of_a_trip_that_is_made(self):
        # The second kind would fail in the first phase, but is not made before the bridge is mended.
        traffic = single(0, (0, 0, 1), (0, 1, 1))
        traffic.go_to(1)
        traffic.mend(0, 2)
        self.assertEqual(first_failure(traffic, 1), 6)


class WrongArgumentsTest(unittest.TestCase):
    def setUp(self):
        self.traffic = Traffic(TOWN, TRIPS)

    def check_error(self, error, function, *arguments):
        with self.subTest(function=function.__name__, arguments=arguments):
            with self.assertRaises(error):
                function(self.traffic, *arguments)
            self.assertEqual((self.traffic.position, self.traffic.changes), (0, []))

    def test_bridges(self):
        for bridge in (-1, 3, 24):
            for number in (-1, 0, 1, LIMIT + 1):
                self.check_error(UnknownBridge, crossings, bridge, number)
                self.check_error(UnknownBridge, nth_crossing, bridge, number)
                self.check_error(UnknownBridge, bears_until, bridge, number)

    def test_numbers_of_trips(self):
        for count in (-1, LIMIT + 1, 10 ** 30):
            self.check_error(InvalidCount, crossings, 0, count)
            self.check_error(InvalidCount, failures, count)
            self.check_error(InvalidCount, distance, count)
        for count in (0, LIMIT):
            self.assertEqual(crossings(self.traffic, 0, count), 0 if count == 0 else 4)

    def test_numbers_of_crossings_and_failures(self):
        for number in (-1, 0, LIMIT + 1, 10 ** 30):
            self.check_error(InvalidCount, nth_crossing, 0, number)
            self.check_error(InvalidCount, nth_failure, number)

    def test_loads(self):
        for load in (-1, 0, 10, 11):
            self.check_error(InvalidLoad, bears_until, 0, load)
            self.check_error(InvalidLoad, connected_until, 0, 2, load)
            self.check_error(InvalidLoad, connected_until, 1, 1, load)

    def test_places(self):
        for place in (-1, 3, 12):
            for load in (0, 1, 10):
                self.check_error(UnknownPlace, connected_until, place, 0, load)
                self.check_error(UnknownPlace, connected_until, 0, place, load)
                self.check_error(UnknownPlace, connected_until, place, place, load)

    def test_kinds(self):
        for kind in (-2, -1, 2, 3, 8):
            self.check_error(UnknownKind, first_failure, kind)


class SimulationTest(unittest.TestCase):
    def check_counts(self, traffic, simulated):
        counts = [*range(0, simulated.count, 9), simulated.count]
        for bridge in range(len(traffic.town.bridges)):
            found = simulated.numbers_where(lambda route: bridge in (route or ()))
            self.assertEqual([crossings(traffic, bridge, count) for count in counts], below(found, counts))
            self.assertEqual([nth_crossing(traffic, bridge, at + 1) for at in range(len(found))], found)
            self.assertIsNone(nth_crossing(traffic, bridge, len(found) + 1))
            self.assertEqual(bridge in never_crossed(traffic), not found)
        found = simulated.numbers_where(lambda route: route is None)
        self.assertEqual([failures(traffic, count) for count in counts], below(found, counts))
        self.assertEqual([nth_failure(traffic, at + 1) for at in range(len(found))], found)
        self.assertEqual(nth_failure(traffic, len(found) + 1) is None, not found or found[-1] < simulated.count - 50)
        lengths = [sum([traffic.town.bridges[bridge][2] for bridge in route or ()]) for route in simulated.routes]
        self.assertEqual([distance(traffic, count) for count in counts], [sum(lengths[:count]) for count in counts])

    def check_until(self, traffic, simulated, chance):
        for kind in range(len(traffic.trips)):
            found = [number for number in simulated.numbers_where(lambda route: route is None)
                     if (number - 1) % len(traffic.trips) == kind]
            self.assertEqual(first_failure(traffic, kind), min(found, default=None))
        for load in chance.sample(range(1, 10), 3):
            for bridge in range(len(traffic.town.bridges)):
                found = [count for count, lives in enumerate(simulated.lives) if lives[bridge] < load]
                self.assertEqual(bears_until(traffic, bridge, load), min(found, default=None))
            one, other = [chance.randrange(traffic.town.place_count) for _ in range(2)]
            found = [count for count, lives in enumerate(simulated.lives)
                     if tried_route(traffic.town, lives, (one, other, load)) is None]
            self.assertEqual(connected_until(traffic, one, other, load), min(found, default=None))

    def check_all(self, seed, times, most_changes):
        chance = random.Random(seed)
        for _ in range(times):
            town = random_town(chance)
            trips = random_trips(chance, town)
            changes = random_changes(chance, town, most_changes)
            with self.subTest(town=town.text, trips=trips, changes=changes):
                traffic = Traffic(town, trips)
                make_changes(traffic, changes)
                simulated = Simulated(town, trips, changes)
                self.check_counts(traffic, simulated)
                self.check_until(traffic, simulated, chance)
                self.assertEqual((traffic.position, traffic.changes), (0, changes))

    def test_without_changes(self):
        self.check_all(11, 40, 0)

    def test_with_changes(self):
        self.check_all(12, 60, 4)


def below(found, counts):
    """Return for each count how many of the found numbers are not above it."""
    return [len([number for number in found if number <= count]) for count in counts]


class FarTest(unittest.TestCase):
    """Far numbers of trips against what the phases tell."""

    def told(self, traffic, count, worth):
        """Return the sum over the first so many trips of what their routes are worth."""
        size = len(traffic.trips)
        total = 0
        for first, last, routes in traffic.phases():
            end = count if last is None else min(last, count)
            for kind, route in enumerate(routes):
                begin = first + (kind + 1 - first) % size
                total += len(range(begin, end + 1, size)) * worth(route)
        return total

    def far_traffic(self, chance):
        town = far_town(chance)
        traffic = Traffic(town, random_trips(chance, town))
        make_changes(traffic, random_changes(chance, town, 5, LIMIT, LIMIT))
        return traffic

    def test_counts(self):
        chance = random.Random(13)
        for _ in range(40):
            traffic = self.far_traffic(chance)
            for count in (0, 1, LIMIT - 1, LIMIT, chance.randint(0, LIMIT)):
                with self.subTest(town=traffic.town.text, trips=traffic.trips, count=count):
                    for bridge in range(len(traffic.town.bridges)):
                        times = self.told(traffic, count, lambda route: int(bridge in (route or ())))
                        self.assertEqual(crossings(traffic, bridge, count), times)
                    failed = self.told(traffic, count, lambda route: int(route is None))
                    self.assertEqual(failures(traffic, count), failed)
                    lengths = [bridge[2] for bridge in traffic.town.bridges]
                    total = self.told(traffic, count, lambda route: sum([lengths[one] for one in route or ()]))
                    self.assertEqual(distance(traffic, count), total)

    def test_nth(self):
        chance = random.Random(14)
        for _ in range(60):
            traffic = self.far_traffic(chance)
            with self.subTest(town=traffic.town.text, trips=traffic.trips, changes=traffic.changes):
                for bridge in range(len(traffic.town.bridges)):
                    many = crossings(traffic, bridge, LIMIT)
                    for number in sorted({1, many // 2, many, many + 1} - {0}):
                        trip = nth_crossing(traffic, bridge, number)
                        self.check_nth(traffic, number, trip, many, lambda count: crossings(traffic, bridge, count))
                many = failures(traffic, LIMIT)
                for number in sorted({1, many // 2, many, min(many + 1, LIMIT)} - {0}):
                    trip = nth_failure(traffic, number)
                    self.check_nth(traffic, number, trip, many, lambda count: failures(traffic, count))

    def check_nth(self, traffic, number, trip, many, counted):
        """Check the number of a trip against a count that becomes the number by this trip."""
        if number > many:
            self.assertTrue(trip is None or trip > LIMIT)
        else:
            self.assertEqual((counted(trip - 1), counted(trip)), (number - 1, number))

    def test_until(self):
        chance = random.Random(15)
        for _ in range(40):
            traffic = self.far_traffic(chance)
            with self.subTest(town=traffic.town.text, trips=traffic.trips, changes=traffic.changes):
                for bridge in range(len(traffic.town.bridges)):
                    load = chance.randint(1, 9)
                    until = bears_until(traffic, bridge, load)
                    if until is not None and until <= LIMIT:
                        self.assertLess(traffic.lives_after(until)[bridge], load)
                    if until is None or until > 0:
                        before = LIMIT if until is None else min(until - 1, LIMIT)
                        self.assertGreaterEqual(traffic.lives_after(before)[bridge], load)


if __name__ == "__main__":
    unittest.main()
