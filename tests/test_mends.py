"""Point 12: the fewest bridges with unlimited lives by which trips pass."""

import itertools
import random
import unittest

from simulated import random_town, random_trips, tried_route
from wornbridges.errors import InvalidCount, InvalidTrips, TooManyBridges
from wornbridges.mends import fewest_mends
from wornbridges.towns import Town

LIMIT = 10 ** 18
TOWN = Town(3, ((0, 1, 2, 10), (1, 2, 3, 4), (0, 2, 9, 7)))
TRIPS = ((0, 2, 1), (2, 1, 2))


def passing_trips(town, trips, bridges, most, known):
    """Return how many trips, of so many, pass before the first one that fails, made one after another."""
    lives = [1000 if bridge in bridges else life for bridge, life in enumerate(town.lives)]
    for number in range(most):
        trip = trips[number % len(trips)]
        key = (trip, tuple([life >= trip[2] for life in lives]))
        if key not in known:
            known[key] = tried_route(town, lives, trip)
        if known[key] is None:
            return number
        for bridge in known[key]:
            lives[bridge] -= 0 if bridge in bridges else trip[2]
    return most


def lists_of(size):
    """Return all ascending lists of so many bridges, the shortest ones first, those of a length in list order."""
    found = []
    for bits in itertools.product((False, True), repeat=size):
        found.append([bridge for bridge in range(size) if bits[bridge]])
    return sorted(found, key=lambda bridges: (len(bridges), bridges))


class SimulationTest(unittest.TestCase):
    def check(self, town, trips, most=50):
        """Check each number of trips up to a greatest one against all lists of bridges; return what was found."""
        known = {}
        lists = lists_of(len(town.bridges))
        passing = [passing_trips(town, trips, bridges, most, known) for bridges in lists]
        answers = []
        for count in range(most + 1):
            wanted = next((bridges for bridges, passed in zip(lists, passing) if passed >= count), None)
            with self.subTest(town=town.text, trips=trips, count=count):
                self.assertEqual(fewest_mends(town, trips, count), wanted)
            answers.append(wanted)
        return answers

    def test_the_town_of_the_examples(self):
        answers = self.check(TOWN, TRIPS)
        self.assertEqual([answers[0], answers[7], answers[8], answers[20]], [[], [], [1], [1]])
        self.assertEqual([fewest_mends(TOWN, TRIPS, count) for count in (34, 35, 50)], [[1], [0, 1], [0, 1]])

    def test_random_towns(self):
        chance = random.Random(31)
        lengths = set()
        for _ in range(120):
            town = random_town(chance, places=4, bridges=5, life=40)
            answers = self.check(town, random_trips(chance, town), chance.randint(10, 30))
            lengths |= {None if answer is None else len(answer) for answer in answers}
        self.assertLessEqual({None, 0, 1, 2, 3}, lengths)

    def test_fifty_trips(self):
        chance = random.Random(32)
        for _ in range(12):
            town = random_town(chance, places=5, bridges=6, life=60)
            self.check(town, random_trips(chance, town, 4))

    def test_rounds_with_the_same_places(self):
        # Of several lists with as many bridges, the first one is taken.
        for trips in (((0, 1, 1),), ((0, 1, 5), (1, 0, 1), (0, 1, 9))):
            self.check(Town(2, ((0, 1, 2, 20), (0, 1, 1, 9), (0, 1, 2, 20), (0, 1, 1, 9))), trips)
            self.check(Town(3, ((0, 1, 1, 0), (1, 2, 1, 0), (0, 1, 1, 0), (2, 1, 1, 0))), trips)


class FewestTest(unittest.TestCase):
    def test_no_trips(self):
        for town in (TOWN, Town(1, ()), Town(12, ()), Town(3, ((0, 1, 1, 0),))):
            trips = ((0, town.place_count - 1, 9),)
            self.assertEqual(fewest_mends(town, trips, 0), [])

    def test_trips_that_all_pass(self):
        self.assertEqual(fewest_mends(TOWN, TRIPS, 7), [])
        self.assertEqual(fewest_mends(TOWN, ((1, 1, 9),), LIMIT), [])
        self.assertEqual(fewest_mends(Town(1, ()), ((0, 0, 1),) * 8, LIMIT), [])

    def test_a_trip_that_can_never_pass(self):
        town = Town(4, ((0, 1, 1, 9), (1, 2, 1, 9)))
        for trip in ((0, 3, 1), (3, 1, 9)):
            self.assertIsNone(fewest_mends(town, (trip,), 1))
            self.assertIsNone(fewest_mends(town, ((0, 2, 1), trip), LIMIT))
            self.assertEqual(fewest_mends(town, ((0, 2, 1), trip), 1), [])
            self.assertIsNone(fewest_mends(town, ((0, 2, 1), trip), 2))
        self.assertIsNone(fewest_mends(Town(2, ()), ((0, 1, 1),), 1))

    def test_a_bridge_without_life(self):
        town = Town(2, ((0, 1, 5, 8), (0, 1, 9, 0)))
        self.assertEqual(fewest_mends(town, ((0, 1, 9),), 1), [0])
        self.assertEqual(fewest_mends(town, ((0, 1, 9),), LIMIT), [0])
        self.assertEqual(fewest_mends(Town(2, ((0, 1, 9, 0),)), ((0, 1, 9),), LIMIT), [0])

    def test_the_shortest_list_before_the_first_one(self):
        # [0, 1] is before [2] in list order, but longer.
        town = Town(3, ((0, 1, 1, 2), (1, 2, 1, 2), (0, 2, 9, 3)))
        self.assertEqual(fewest_mends(town, ((0, 2, 1),), 5), [])
        self.assertEqual(fewest_mends(town, ((0, 2, 1),), 6), [2])

    def test_a_mended_bridge_draws_trips_to_others(self):
        # With bridge 0 alone unlimited, trip 4 fails: light trips have worn bridge 1, which heavy ones need.
        town = Town(3, ((0, 1, 1, 0), (1, 2, 1, 10), (0, 2, 9, 4)))
        trips = ((0, 2, 1), (1, 2, 5))
        self.assertEqual([fewest_mends(town, trips, count) for count in (5, 6, 8, 9)], [[], [1], [1], [0, 1]])

    def test_exactly_eight_bridges(self):
        town = Town(9, tuple([(place, place + 1, 1, place) for place in range(8)]))
        self.assertEqual(fewest_mends(town, ((0, 8, 4),), 1), [0, 1, 2, 3])
        self.assertEqual(fewest_mends(town, ((0, 8, 1),), 8), list(range(8)))
        self.assertEqual(fewest_mends(town, ((0, 8, 9), (8, 0, 1)), LIMIT), list(range(8)))
        self.assertEqual(fewest_mends(town, ((6, 8, 2),), 4), [6, 7])
        self.assertEqual(fewest_mends(town, ((6, 8, 2),), 3), [])
        self.assertEqual(fewest_mends(Town(2, ((0, 1, 1, 5),) * 8), ((0, 1, 5),), 8), [])
        self.assertEqual(fewest_mends(Town(2, ((0, 1, 1, 5),) * 8), ((0, 1, 5),), 9), [0])

    def test_far(self):
        town = Town(2, ((0, 1, 1, LIMIT), (0, 1, 2, LIMIT - 1)))
        self.assertEqual(fewest_mends(town, ((0, 1, 1),), LIMIT), [])
        self.assertEqual(fewest_mends(town, ((0, 1, 2),), LIMIT - 1), [])
        self.assertEqual(fewest_mends(town, ((0, 1, 2),), LIMIT), [0])
        self.assertEqual(fewest_mends(town, ((0, 1, 9),) * 8, LIMIT), [0])
        apart = Town(3, ((0, 1, 1, LIMIT), (1, 2, 1, LIMIT // 2)))
        self.assertEqual(fewest_mends(apart, ((0, 1, 1), (1, 2, 1)), LIMIT), [])
        self.assertEqual(fewest_mends(apart, ((0, 2, 1), (1, 2, 1)), LIMIT), [1])
        self.assertEqual(fewest_mends(apart, ((0, 2, 9), (2, 0, 9)), LIMIT), [0, 1])

    def test_a_far_failure_just_reached(self):
        town = Town(2, ((0, 1, 1, 3 * 10 ** 17),))
        self.assertEqual(fewest_mends(town, ((0, 1, 3), (1, 1, 1)), 2 * 10 ** 17), [])
        self.assertEqual(fewest_mends(town, ((0, 1, 3), (1, 1, 1)), 2 * 10 ** 17 + 1), [0])

    def test_lists_are_the_callers(self):
        for _ in range(2):
            found = fewest_mends(TOWN, TRIPS, 35)
            self.assertEqual(found, [0, 1])
            found.append(2)
            empty = fewest_mends(TOWN, TRIPS, 3)
            self.assertEqual(empty, [])
            empty.append(7)
        self.assertEqual(TOWN.lives, (10, 4, 7))


class ErrorTest(unittest.TestCase):
    def check_trips(self, index, *arguments):
        with self.subTest(arguments=arguments[1:]):
            with self.assertRaises(InvalidTrips) as caught:
                fewest_mends(*arguments)
            self.assertEqual(caught.exception.index, index)

    def test_trips(self):
        good = (0, 2, 1)
        self.check_trips(-1, TOWN, (), 5)
        self.check_trips(-1, TOWN, (good,) * 9, 5)
        for wrong in ((-1, 0, 1), (0, 3, 1), (3, 0, 1), (0, -1, 1), (0, 1, 0), (0, 1, 10)):
            self.check_trips(0, TOWN, (wrong, good), 5)
            self.check_trips(7, TOWN, (good,) * 7 + (wrong,), 5)
            self.check_trips(1, TOWN, (good, wrong, wrong), 5)

    def test_nine_bridges(self):
        for size in (9, 24):
            for count in (0, 5, LIMIT):
                with self.assertRaises(TooManyBridges):
                    fewest_mends(Town(2, ((0, 1, 1, 9),) * size), ((0, 1, 1),), count)

    def test_counts(self):
        for town in (TOWN, Town(3, TOWN.bridges + TOWN.bridges[:2] * 2 + TOWN.bridges[:1])):
            for count in (-1, LIMIT + 1):
                with self.assertRaises(InvalidCount):
                    fewest_mends(town, TRIPS, count)

    def test_order(self):
        large = Town(3, TOWN.bridges * 3)
        self.check_trips(1, large, ((0, 2, 1), (0, 3, 1)), -1)
        self.check_trips(-1, large, (), LIMIT + 1)
        self.check_trips(0, TOWN, ((0, 3, 1),), -1)
        for count in (-1, LIMIT + 1):
            with self.assertRaises(TooManyBridges):
                fewest_mends(large, TRIPS, count)


if __name__ == "__main__":
    unittest.main()
