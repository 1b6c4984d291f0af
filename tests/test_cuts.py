"""Point 11: how many trips can pass at most, and cuts that show it."""

import itertools
import random
import unittest

from simulated import Simulated, make_changes, random_changes, random_town, random_trips
from wornbridges.cuts import best_routes, failing_cut, is_cut, trip_bound
from wornbridges.errors import InvalidTrips, UnknownKind
from wornbridges.routes import reached_places
from wornbridges.towns import Town
from wornbridges.traffic import Traffic

LIMIT = 10 ** 18
TOWN = Town(3, ((0, 1, 2, 10), (1, 2, 3, 4), (0, 2, 9, 7)))
TRIPS = ((0, 2, 1), (2, 1, 2))


def cuts_of(count, start, end):
    """Return all cuts between two places, as ascending lists."""
    others = [place for place in range(count) if place not in (start, end)]
    found = []
    for size in range(len(others) + 1):
        found += [sorted([start, *places]) for places in itertools.combinations(others, size)]
    return found


def ends_apart(bridge, places):
    return len([place for place in bridge[:2] if place in places]) == 1


def bound_of(town, trip, places):
    """Return how many trips like one the bridges from inside to outside of places bear."""
    return sum([bridge[3] // trip[2] for bridge in town.bridges if ends_apart(bridge, places)])


class BestCase(unittest.TestCase):
    def check_trip(self, town, trip):
        """Check the bound of a trip against all cuts, and its best routes against the bound and the lives."""
        with self.subTest(town=town.text, trip=trip):
            start, end, load = trip
            cuts = cuts_of(town.place_count, start, end)
            wanted = min([(bound_of(town, trip, places), places) for places in cuts])
            self.assertEqual(trip_bound(town, trip), wanted)
            self.check_routes(town, trip, wanted[0])

    def check_routes(self, town, trip, number):
        found = best_routes(town, trip)
        self.assertIsInstance(found, list)
        self.assertEqual(sum([times for _, times in found]), number)
        self.assertEqual(len({route for route, _ in found}), len(found))
        lives = list(town.lives)
        for route, times in found:
            self.assertIsInstance(route, tuple)
            self.assertGreater(times, 0)
            place = trip[0]
            for bridge in route:
                self.assertIn(place, town.bridges[bridge][:2])
                place = sum(town.bridges[bridge][:2]) - place
                lives[bridge] -= times * trip[2]
            self.assertEqual(place, trip[1])
        self.assertGreaterEqual(min(lives, default=0), 0)


class BoundTest(BestCase):
    def test_bounds(self):
        self.assertEqual(trip_bound(TOWN, (0, 2, 1)), (11, [0, 1]))
        self.assertEqual(trip_bound(TOWN, (2, 0, 1)), (11, [2]))
        self.assertEqual(trip_bound(TOWN, (0, 2, 2)), (5, [0, 1]))
        self.assertEqual(trip_bound(TOWN, (0, 1, 4)), (3, [0]))
        self.assertEqual(trip_bound(TOWN, (0, 2, 9)), (0, [0, 1]))

    def test_each_bridge_is_rounded_by_itself(self):
        town = Town(2, ((0, 1, 1, 8), (0, 1, 1, 17), (0, 1, 1, 9)))
        self.assertEqual(trip_bound(town, (0, 1, 9)), (2, [0]))
        self.check_trip(town, (0, 1, 9))

    def test_the_first_one_of_several_cuts(self):
        path = Town(4, ((0, 1, 1, 5), (1, 2, 1, 5), (2, 3, 1, 5)))
        self.assertEqual(trip_bound(path, (0, 3, 1)), (5, [0]))
        self.assertEqual(trip_bound(path, (3, 0, 1)), (5, [1, 2, 3]))
        self.assertEqual(trip_bound(path, (3, 1, 2)), (2, [2, 3]))
        apart = Town(5, ())
        self.assertEqual(trip_bound(apart, (0, 4, 1)), (0, [0]))
        self.assertEqual(trip_bound(apart, (4, 0, 1)), (0, [1, 2, 3, 4]))
        self.assertEqual(trip_bound(apart, (2, 1, 1)), (0, [0, 2]))
        self.assertEqual(trip_bound(apart, (2, 3, 1)), (0, [0, 1, 2]))

    def test_a_prefix_comes_first(self):
        # [1] and [1, 2] are cuts with the same number.
        self.assertEqual(trip_bound(Town(3, ((0, 1, 1, 3),)), (1, 0, 1)), (3, [1]))

    def test_from_a_place_to_itself(self):
        for place in range(3):
            self.assertIsNone(trip_bound(TOWN, (place, place, 9)))
            self.assertEqual(best_routes(TOWN, (place, place, 9)), [])
        self.assertIsNone(trip_bound(Town(1, ()), (0, 0, 1)))

    def test_no_trip_can_pass(self):
        self.assertEqual(best_routes(TOWN, (0, 2, 9)), [])
        self.assertEqual(best_routes(Town(2, ()), (0, 1, 1)), [])
        self.assertEqual(best_routes(Town(3, ((0, 1, 1, 9), (1, 2, 1, 3))), (0, 2, 4)), [])

    def test_the_shortest_route_would_bar_the_others(self):
        # The route 0 1 2 over places 0 1 2 3 is the shortest one by bridges and by length, and not among the best.
        rows = ((0, 1), (1, 2), (2, 3), (0, 4), (4, 5), (5, 2), (1, 6), (6, 7), (7, 3))
        for life, number in ((1, 2), (LIMIT, 2 * LIMIT)):
            town = Town(8, tuple([(one, other, 1, life) for one, other in rows]))
            self.assertEqual(trip_bound(town, (0, 3, 1))[0], number)
            self.assertEqual(sorted(best_routes(town, (0, 3, 1))), [((0, 6, 7, 8), life), ((3, 4, 5, 2), life)])
            self.assertEqual(sorted(best_routes(town, (3, 0, 1))), [((2, 5, 4, 3), life), ((8, 7, 6, 0), life)])

    def test_trips_that_turn_back_in_part(self):
        # Of 5 trips over the bridge in the middle, 2 remain.
        rows = ((0, 1, 5), (1, 2, 5), (2, 3, 5), (0, 4, 3), (4, 5, 3), (5, 2, 3), (1, 6, 9), (6, 7, 9), (7, 3, 9))
        town = Town(8, tuple([(one, other, 1, life) for one, other, life in rows]))
        for trip in ((0, 3, 1), (3, 0, 1), (0, 3, 2), (1, 5, 1), (6, 4, 3)):
            self.check_trip(town, trip)

    def test_lists_are_the_callers(self):
        best_routes(TOWN, (0, 2, 1)).clear()
        trip_bound(TOWN, (0, 2, 1))[1].clear()
        self.check_trip(TOWN, (0, 2, 1))

    def test_greatest_lives(self):
        town = Town(4, tuple([(one, other, 1, LIMIT - one) for one in range(4) for other in range(4) if one != other]))
        for load in (1, 9):
            self.check_trip(town, (0, 3, load))
        self.assertEqual(trip_bound(town, (0, 3, 1)), (6 * LIMIT - 12, [0, 1, 2]))

    def test_small_towns(self):
        chance = random.Random(31)
        for _ in range(200):
            town = random_town(chance, places=6, bridges=10, life=20)
            one, other = chance.sample(range(town.place_count), 2)
            self.check_trip(town, (one, other, chance.randint(1, 9)))

    def test_far_lives(self):
        chance = random.Random(32)
        for _ in range(60):
            small = random_town(chance, places=6, bridges=12)
            bridges = [(*bridge[:3], chance.randint(0, LIMIT)) for bridge in small.bridges]
            one, other = chance.sample(range(small.place_count), 2)
            self.check_trip(Town(small.place_count, tuple(bridges)), (one, other, chance.randint(1, 9)))

    def test_greatest_towns(self):
        chance = random.Random(33)
        for _ in range(8):
            self.check_trip(*self.wide_town(chance, 24, 30))

    def test_many_wide_towns(self):
        chance = random.Random(36)
        for _ in range(200):
            town, trip = self.wide_town(chance, chance.randint(13, 24), 4)
            with self.subTest(town=town.text, trip=trip):
                self.check_routes(town, trip, trip_bound(town, trip)[0])

    def wide_town(self, chance, number, life):
        """Return a random town with 12 places and so many bridges, and a trip of it."""
        pairs = [chance.sample(range(12), 2) for _ in range(number)]
        town = Town(12, tuple([(one, other, 1, chance.randint(0, life)) for one, other in pairs]))
        return town, (*chance.sample(range(12), 2), chance.randint(1, 2))


class FailingCutTest(unittest.TestCase):
    def test_cuts(self):
        traffic = Traffic(TOWN, TRIPS)
        self.assertEqual([failing_cut(traffic, 0), failing_cut(traffic, 1)], [[0, 1], [2]])
        traffic.close(1)
        traffic.close(2)
        self.assertEqual([failing_cut(traffic, 0), failing_cut(traffic, 1)], [[0, 1], [2]])

    def test_none(self):
        self.assertIsNone(failing_cut(Traffic(TOWN, ((1, 1, 9),)), 0))
        traffic = Traffic(Town(2, ((0, 1, 1, 0),)), ((0, 0, 1), (0, 1, 1)))
        self.assertEqual([failing_cut(traffic, 0), failing_cut(traffic, 1)], [None, [0]])

    def test_the_first_failing_trip_counts(self):
        # Trip 2 does not reach place 1, and trip 4 would.
        traffic = Traffic(Town(3, ((0, 1, 1, 0), (1, 2, 1, 0))), ((2, 2, 1), (0, 2, 1)))
        traffic.go_to(2)
        traffic.mend(0, 5)
        self.assertEqual(failing_cut(traffic, 1), [0])
        traffic.go_to(1)
        traffic.mend(0, 5)
        self.assertEqual(failing_cut(traffic, 1), [0, 1])

    def test_far(self):
        traffic = Traffic(Town(3, ((0, 1, 1, LIMIT), (1, 2, 1, LIMIT))), (*((0, 0, 9),) * 6, (2, 1, 1), (0, 2, 1)))
        self.assertEqual([failing_cut(traffic, 6), failing_cut(traffic, 7)], [[2], [0, 1]])
        self.assertIsNone(failing_cut(traffic, 0))

    def test_the_list_is_the_callers(self):
        traffic = Traffic(TOWN, TRIPS)
        failing_cut(traffic, 0).clear()
        self.assertEqual(failing_cut(traffic, 0), [0, 1])

    def test_kinds(self):
        traffic = Traffic(TOWN, TRIPS)
        for kind in (-2, -1, 2, 8):
            with self.subTest(kind=kind):
                with self.assertRaises(UnknownKind):
                    failing_cut(traffic, kind)

    def test_against_a_simulation(self):
        chance = random.Random(34)
        for _ in range(120):
            town = random_town(chance)
            trips = random_trips(chance, town)
            changes = random_changes(chance, town)
            traffic = Traffic(town, trips)
            make_changes(traffic, changes)
            simulated = Simulated(town, trips, changes)
            failing = simulated.numbers_where(lambda route: route is None)
            for kind, trip in enumerate(trips):
                with self.subTest(town=town.text, trips=trips, changes=changes, kind=kind):
                    numbers = [number for number in failing if (number - 1) % len(trips) == kind]
                    wanted = None
                    if numbers:
                        lives = tuple(simulated.lives[numbers[0] - 1])
                        wanted = reached_places(town, lives, trip[0], trip[2])
                        self.assertIs(is_cut(town, lives, trip, wanted), True)
                    self.assertEqual(failing_cut(traffic, kind), wanted)


class IsCutTest(unittest.TestCase):
    def test_bridges_that_bear(self):
        self.assertIs(is_cut(TOWN, (4, 0, 1), (2, 1, 2), [2]), True)
        self.assertIs(is_cut(TOWN, (4, 0, 2), (2, 1, 2), [2]), False)
        self.assertIs(is_cut(TOWN, (4, 2, 1), (2, 1, 2), [2]), False)
        self.assertIs(is_cut(TOWN, (1, 9, 9), (0, 1, 2), [0]), False)
        self.assertIs(is_cut(TOWN, (1, 1, 9), (0, 1, 2), [2, 0]), True)

    def test_bridges_inside_and_outside_do_not_count(self):
        town = Town(4, ((0, 1, 1, 5), (1, 2, 1, 5), (2, 3, 1, 5)))
        for places, wanted in (([0, 1], True), ([1, 0], True), ([0], False), ([0, 1, 2], False), ([0, 2], False)):
            with self.subTest(places=places):
                self.assertIs(is_cut(town, (9, 0, 9), (0, 3, 1), places), wanted)

    def test_both_directions(self):
        town = Town(2, ((1, 0, 1, 5),))
        for trip in ((0, 1, 6), (1, 0, 6)):
            self.assertIs(is_cut(town, (5,), trip, [trip[0]]), True)
            self.assertIs(is_cut(town, (6,), trip, [trip[0]]), False)

    def test_start_and_end(self):
        for places in ([], [1], [2], [0, 2], [1, 2], [0, 1, 2]):
            with self.subTest(places=places):
                self.assertIs(is_cut(TOWN, (0, 0, 0), (0, 2, 1), places), False)
        self.assertIs(is_cut(TOWN, (0, 0, 0), (0, 2, 1), [0]), True)
        self.assertIs(is_cut(TOWN, (0, 0, 0), (0, 2, 1), [0, 1]), True)

    def test_from_a_place_to_itself(self):
        for places in ([], [0], [1], [0, 1], [1, 2]):
            self.assertIs(is_cut(TOWN, (0, 0, 0), (1, 1, 1), places), False)

    def test_against_all_sets_of_places(self):
        chance = random.Random(35)
        for _ in range(60):
            town = random_town(chance)
            trip = random_trips(chance, town)[0]
            lives = tuple([chance.randint(0, 9) for _ in town.bridges])
            for size in range(town.place_count + 1):
                for places in itertools.permutations(range(town.place_count), size):
                    barred = all([lives[at] < trip[2] for at, bridge in enumerate(town.bridges)
                                  if ends_apart(bridge, places)])
                    wanted = trip[0] in places and trip[1] not in places and barred
                    self.assertIs(is_cut(town, lives, trip, list(places)), wanted)

    def test_the_list_stays_as_it_is(self):
        places = [1, 0]
        is_cut(TOWN, (4, 0, 1), (0, 2, 2), places)
        self.assertEqual(places, [1, 0])


class WrongTripsTest(unittest.TestCase):
    def test_trips(self):
        wrong = [(-1, 0, 1), (3, 0, 1), (0, -1, 1), (0, 3, 1), (0, 1, 0), (0, 1, 10), (0, 1, -1), (3, 3, 1), (1, 1, 0)]
        for trip in wrong:
            for call in (lambda: trip_bound(TOWN, trip), lambda: best_routes(TOWN, trip),
                         lambda: is_cut(TOWN, (1, 1, 1), trip, [0])):
                with self.subTest(trip=trip):
                    with self.assertRaises(InvalidTrips) as caught:
                        call()
                    self.assertEqual(caught.exception.index, 0)

    def test_trips_in_range(self):
        for trip in ((0, 2, 1), (2, 0, 9)):
            self.assertEqual(len(trip_bound(TOWN, trip)), 2)
            self.assertIs(is_cut(TOWN, (0, 0, 0), trip, [trip[0]]), True)


if __name__ == "__main__":
    unittest.main()
