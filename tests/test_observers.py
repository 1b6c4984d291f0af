"""Point 13: observers, and what they can conclude."""

import random
import unittest

from simulated import Simulated, random_town, random_trips
from wornbridges.errors import Contradiction, DifferentTowns, InvalidCount, InvalidTrips, UnknownBridge
from wornbridges.observers import Observer
from wornbridges.towns import Town
from wornbridges.traffic import Traffic

LIMIT = 10 ** 18
TOWN = Town(3, ((0, 1, 2, 10), (1, 2, 3, 4), (0, 2, 9, 7)))
MORE = Town(3, ((0, 1, 2, 10), (1, 2, 3, 6), (0, 2, 9, 7)))
TRIPS = ((0, 2, 1), (2, 1, 2))


def path_town(*lives):
    """Return a town with bridges between two places, the shortest one first."""
    return Town(2, tuple([(0, 1, number, life) for number, life in enumerate(lives, 1)]))


def state_of(observer):
    return (observer.candidates, observer.records)


class ObserverCase(unittest.TestCase):
    def check_error(self, error, observer, name, *arguments):
        """Check that a method raises an error, and that candidates and records are as before."""
        before = state_of(observer)
        with self.subTest(name=name, arguments=arguments):
            with self.assertRaises(error):
                getattr(observer, name)(*arguments)
            self.assertEqual(state_of(observer), before)


class MakingTest(ObserverCase):
    def check_trips(self, index, towns, trips):
        with self.assertRaises(InvalidTrips) as caught:
            Observer(towns, trips)
        self.assertEqual(caught.exception.index, index)

    def test_numbers_of_towns(self):
        for number in (1, 2, 50):
            observer = Observer([TOWN] * number, TRIPS)
            self.assertEqual(state_of(observer), (list(range(number)), []))
        for number in (0, 51, 100):
            with self.assertRaises(InvalidCount):
                Observer([TOWN] * number, TRIPS)

    def test_different_towns(self):
        place = Town(4, TOWN.bridges)
        bridge = Town(3, TOWN.bridges[:2])
        for other in (place, bridge, Town(2, ()), Town(12, TOWN.bridges)):
            for towns in ([TOWN, other], [other, TOWN], [TOWN] * 49 + [other], [MORE, other, TOWN]):
                with self.assertRaises(DifferentTowns):
                    Observer(towns, TRIPS)

    def test_towns_that_differ_in_all_else(self):
        other = Town(3, ((2, 1, 99, 0), (0, 1, 1, LIMIT), (2, 0, 5, 1)))
        self.assertEqual(Observer([TOWN, other, MORE, TOWN], TRIPS).candidates, [0, 1, 2, 3])
        self.assertEqual(Observer([Town(1, ())] * 3, ((0, 0, 1),)).candidates, [0, 1, 2])

    def test_wrong_rounds(self):
        self.check_trips(-1, [TOWN, MORE], ())
        self.check_trips(-1, [TOWN, MORE], TRIPS * 4 + TRIPS[:1])
        for wrong in ((3, 0, 1), (0, 3, 1), (-1, 0, 1), (0, 1, 0), (0, 1, 10)):
            self.check_trips(0, [TOWN], (wrong, wrong))
            self.check_trips(2, [TOWN, MORE], TRIPS + (wrong,))

    def test_order_of_the_errors(self):
        bridge = Town(3, TOWN.bridges[:2])
        with self.assertRaises(InvalidCount):
            Observer([], ())
        with self.assertRaises(InvalidCount):
            Observer([TOWN, bridge] * 26, ((0, 3, 1),))
        with self.assertRaises(DifferentTowns):
            Observer([TOWN, bridge], ())
        with self.assertRaises(DifferentTowns):
            Observer([TOWN] * 49 + [bridge], ((0, 3, 1),))

    def test_the_list_of_towns_is_not_kept(self):
        towns = [TOWN, MORE]
        observer = Observer(towns, TRIPS)
        towns.clear()
        self.assertEqual(observer.next_sight(1), 4)
        self.assertEqual(observer.see_trip(1, 4, True), 1)
        self.assertEqual(towns, [])
        towns = [TOWN, MORE]
        Observer(towns, TRIPS).see_total(1, 4, 4)
        self.assertEqual(towns, [TOWN, MORE])


class SeeingTest(ObserverCase):
    def setUp(self):
        # Over bridge 0 go the first 5, 5, 3 and 0 trips, then over bridge 1 the next 2, 9, 9 and 9.
        self.observer = Observer([path_town(*lives) for lives in ((5, 2), (5, 9), (3, 9), (0, 9))], ((0, 1, 1),))

    def test_trips(self):
        self.assertEqual(self.observer.see_trip(0, 6, False), 4)
        self.assertEqual(self.observer.see_trip(0, 3, True), 3)
        self.assertEqual(self.observer.candidates, [0, 1, 2])
        self.assertEqual(self.observer.see_trip(1, 8, True), 2)
        self.assertEqual(self.observer.candidates, [1, 2])
        self.assertEqual(self.observer.see_trip(1, 5, True), 1)
        self.assertEqual(self.observer.candidates, [2])
        self.assertEqual(self.observer.see_trip(1, LIMIT, False), 1)

    def test_totals(self):
        self.assertEqual(self.observer.see_total(0, 0, 0), 4)
        self.assertEqual(self.observer.see_total(1, 8, 3), 1)
        self.assertEqual(self.observer.candidates, [1])
        self.assertEqual(self.observer.see_total(1, LIMIT, 9), 1)
        self.assertEqual(self.observer.see_total(0, LIMIT, 5), 1)

    def test_candidates_need_not_be_the_first_ones(self):
        self.assertEqual(self.observer.see_total(1, LIMIT, 9), 3)
        self.assertEqual(self.observer.candidates, [1, 2, 3])
        self.assertEqual(self.observer.see_total(0, 4, 3), 1)
        self.assertEqual(self.observer.candidates, [2])

    def test_records(self):
        wanted = []
        for record in (
            ("trip", 0, 1000, False), ("total", 0, 0, 0), ("trip", 0, 3, True), ("total", 0, 7, 5),
            ("trip", 0, 3, True), ("trip", 0, 3, True), ("total", 0, 7, 5), ("total", 1, LIMIT, 2),
            ("trip", 1, LIMIT, False),
        ):
            if record[0] == "trip":
                self.observer.see_trip(*record[1:])
            else:
                self.observer.see_total(*record[1:])
            wanted.append(record)
            self.assertEqual(self.observer.records, wanted)
        self.assertEqual(self.observer.candidates, [0])

    def test_records_keep_what_was_seen_as_it_was(self):
        self.observer.see_trip(0, 1, True)
        self.observer.see_total(1, 5, 0)
        self.assertEqual(repr(self.observer.records), "[('trip', 0, 1, True), ('total', 1, 5, 0)]")

    def test_contradictions(self):
        self.check_error(Contradiction, self.observer, "see_trip", 0, 6, True)
        self.check_error(Contradiction, self.observer, "see_trip", 1, 6, False)
        self.check_error(Contradiction, self.observer, "see_trip", 0, LIMIT, True)
        for total in (-1, 1, 2, 4, 6, LIMIT):
            self.check_error(Contradiction, self.observer, "see_total", 0, LIMIT, total)
        self.check_error(Contradiction, self.observer, "see_total", 1, 0, 1)
        self.observer.see_trip(0, 4, True)
        self.check_error(Contradiction, self.observer, "see_trip", 0, 4, False)
        self.check_error(Contradiction, self.observer, "see_total", 0, 5, 3)
        self.assertEqual(state_of(self.observer), ([0, 1], [("trip", 0, 4, True)]))
        self.assertEqual(self.observer.next_sight(1), 8)
        self.assertEqual(self.observer.see_total(1, 9, 4), 1)

    def test_unknown_bridges(self):
        for bridge in (-1, 2, LIMIT):
            self.check_error(UnknownBridge, self.observer, "see_trip", bridge, 1, True)
            self.check_error(UnknownBridge, self.observer, "see_total", bridge, 1, 1)
            self.check_error(UnknownBridge, self.observer, "next_sight", bridge)
        empty = Observer([Town(1, ())] * 2, ((0, 0, 1),))
        self.check_error(UnknownBridge, empty, "see_trip", 0, 1, False)
        self.check_error(UnknownBridge, empty, "see_total", 0, 1, 0)
        self.check_error(UnknownBridge, empty, "next_sight", 0)

    def test_wrong_numbers(self):
        for number in (-1, 0, LIMIT + 1):
            self.check_error(InvalidCount, self.observer, "see_trip", 0, number, True)
            self.check_error(InvalidCount, self.observer, "see_trip", 0, number, False)
        for count in (-1, LIMIT + 1):
            self.check_error(InvalidCount, self.observer, "see_total", 0, count, 0)
        self.assertEqual(self.observer.see_trip(0, LIMIT, False), 4)
        self.assertEqual(self.observer.see_trip(1, 1, False), 3)
        self.assertEqual(self.observer.see_total(0, LIMIT, 5), 2)

    def test_order_of_the_errors(self):
        for bridge in (-1, 2):
            for number in (-1, 0, LIMIT + 1):
                self.check_error(UnknownBridge, self.observer, "see_trip", bridge, number, True)
            for count in (-1, LIMIT + 1):
                self.check_error(UnknownBridge, self.observer, "see_total", bridge, count, -1)
        self.check_error(InvalidCount, self.observer, "see_trip", 0, LIMIT + 1, True)
        self.check_error(InvalidCount, self.observer, "see_total", 0, LIMIT + 1, -1)

    def test_lists_are_the_callers(self):
        self.observer.see_trip(0, 4, True)
        self.observer.candidates.clear()
        self.observer.records.append(("trip", 0, 4, True))
        self.assertEqual(state_of(self.observer), ([0, 1], [("trip", 0, 4, True)]))
        candidates, records = self.observer.candidates, self.observer.records
        self.observer.see_trip(1, 8, True)
        self.assertEqual((candidates, records), ([0, 1], [("trip", 0, 4, True)]))
        candidates.append(3)
        records.clear()
        self.assertEqual(state_of(self.observer), ([1], [("trip", 0, 4, True), ("trip", 1, 8, True)]))
        self.assertEqual(self.observer.see_total(0, 9, 5), 1)

    def test_two_observers(self):
        towns = [TOWN, MORE]
        one, other = Observer(towns, TRIPS), Observer(towns, TRIPS)
        one.see_trip(1, 4, True)
        self.assertEqual((state_of(one), state_of(other)), (([1], [("trip", 1, 4, True)]), ([0, 1], [])))


class SightTest(ObserverCase):
    def test_sights(self):
        observer = Observer([path_town(*lives) for lives in ((5, 2), (5, 9), (3, 9))], ((0, 1, 1),))
        self.assertEqual([observer.next_sight(0), observer.next_sight(1), observer.best_bridge()], [4, 4, 0])
        observer.see_trip(0, 4, True)
        self.assertEqual([observer.next_sight(0), observer.next_sight(1), observer.best_bridge()], [None, 8, 1])
        self.assertEqual([observer.next_sight(0), observer.next_sight(1), observer.best_bridge()], [None, 8, 1])
        observer.see_trip(1, 8, True)
        self.assertEqual([observer.next_sight(0), observer.next_sight(1), observer.best_bridge()], [None, None, None])

    def test_any_two_candidates(self):
        # The first one and the last one agree for longer than the others.
        observer = Observer([path_town(life) for life in (9, 7, 3, 5, 9)], ((0, 1, 1),))
        self.assertEqual(observer.next_sight(0), 4)
        observer.see_trip(0, 4, True)
        self.assertEqual(observer.next_sight(0), 6)
        observer.see_trip(0, 6, True)
        self.assertEqual((observer.candidates, observer.next_sight(0)), ([0, 1, 4], 8))
        observer.see_trip(0, 8, True)
        self.assertEqual((observer.candidates, observer.next_sight(0), observer.best_bridge()), ([0, 4], None, None))

    def test_a_single_candidate(self):
        observer = Observer([TOWN], TRIPS)
        self.assertEqual([observer.next_sight(bridge) for bridge in range(3)], [None] * 3)
        self.assertIsNone(observer.best_bridge())

    def test_no_bridges(self):
        self.assertIsNone(Observer([Town(2, ())] * 50, ((0, 1, 1),)).best_bridge())

    def test_only_crossing_counts(self):
        # The second bridge is crossed by other routes, but by the same trips.
        one = Town(3, ((0, 1, 1, 9), (1, 2, 1, 9), (0, 1, 2, 0)))
        other = Town(3, ((0, 1, 2, 0), (1, 2, 1, 9), (0, 1, 1, 9)))
        observer = Observer([one, other], ((1, 1, 1), (0, 2, 1)))
        self.assertEqual([observer.next_sight(bridge) for bridge in range(3)], [2, None, 2])
        self.assertEqual(observer.best_bridge(), 0)

    def test_failing_and_staying_trips_cross_nothing(self):
        one, other = Town(3, ((0, 1, 1, 0),)), Town(3, ((2, 1, 1, 5),))
        observer = Observer([one, other], ((0, 1, 1), (2, 2, 1)))
        self.assertIsNone(observer.next_sight(0))
        self.assertEqual(observer.see_trip(0, 1, False), 2)
        self.assertEqual(observer.see_trip(0, 2, False), 2)

    def test_the_first_one_of_several_bridges(self):
        # Trip 2 tells bridges 1 and 2, trip 1 tells bridges 3 and 4.
        one = Town(4, ((0, 1, 1, 9), (1, 2, 1, 9), (1, 2, 2, 9), (2, 3, 1, 9), (2, 3, 2, 9)))
        other = Town(4, ((0, 1, 1, 9), (1, 2, 2, 9), (1, 2, 1, 9), (2, 3, 2, 9), (2, 3, 1, 9)))
        observer = Observer([one, other], ((2, 3, 1), (1, 2, 1)))
        self.assertEqual([observer.next_sight(bridge) for bridge in range(5)], [None, 2, 2, 1, 1])
        self.assertEqual(observer.best_bridge(), 3)
        observer = Observer([one, other], ((0, 1, 1), (1, 2, 1)))
        self.assertEqual([observer.next_sight(bridge) for bridge in range(5)], [None, 2, 2, None, None])
        self.assertEqual(observer.best_bridge(), 1)

    def test_far(self):
        towns = [path_town(LIMIT - 1), path_town(LIMIT), path_town(LIMIT)]
        observer = Observer(towns, ((0, 1, 1),))
        self.assertEqual([observer.next_sight(0), observer.best_bridge()], [LIMIT, 0])
        self.assertEqual(observer.see_total(0, LIMIT - 1, LIMIT - 1), 3)
        self.assertEqual(observer.see_total(0, LIMIT, LIMIT), 2)
        self.assertEqual(observer.candidates, [1, 2])
        self.assertIsNone(observer.next_sight(0))
        observer = Observer(towns, ((0, 1, 3), (1, 1, 1)))
        # (10 ** 18 - 1) // 3 and 10 ** 18 // 3 are the same.
        self.assertIsNone(observer.next_sight(0))
        observer = Observer(towns, ((1, 1, 1), (0, 1, 2)))
        self.assertEqual(observer.next_sight(0), LIMIT)
        self.assertEqual(observer.see_trip(0, LIMIT, False), 1)
        self.assertEqual(observer.candidates, [0])

    def test_a_sight_behind_the_greatest_number(self):
        observer = Observer([path_town(LIMIT), path_town(LIMIT - 1)], ((1, 1, 1), (0, 1, 1)))
        self.assertEqual(observer.next_sight(0), 2 * LIMIT)


class SimulationTest(ObserverCase):
    def candidates_of(self, chance):
        """Return towns with the same numbers, their round and the simulations of all of them."""
        first = random_town(chance, places=4, bridges=5)
        trips = random_trips(chance, first, 5)
        towns = [first]
        for _ in range(chance.randint(0, 5)):
            bridges = []
            for one, other, length, life in chance.choice(towns).bridges:
                length = chance.choice([length, length, length % 4 + 1])
                bridges.append((one, other, length, max(0, life + chance.choice([-3, -1, 0, 0, 1, 2]))))
            towns.append(Town(first.place_count, tuple(bridges)))
        simulated = [Simulated(town, trips, []) for town in towns]
        most = max([one.count for one in simulated])
        for one in simulated:
            while one.count < most:
                one.make_trip()
        return towns, trips, simulated

    def wanted_sight(self, simulated, candidates, bridge):
        for number in range(1, simulated[0].count + 1):
            seen = {bridge in (simulated[index].routes[number - 1] or ()) for index in candidates}
            if len(seen) == 2:
                return number
        return None

    def check_sights(self, observer, simulated, candidates, size):
        sights = [self.wanted_sight(simulated, candidates, bridge) for bridge in range(size)]
        self.assertEqual([observer.next_sight(bridge) for bridge in range(size)], sights)
        best = min([(number, bridge) for bridge, number in enumerate(sights) if number is not None], default=(0, None))
        self.assertEqual(observer.best_bridge(), best[1])

    def check_observation(self, chance, observer, simulated, size):
        """Make a random observation and check its outcome."""
        bridge, number = chance.randrange(size), chance.randint(1, simulated[0].count)
        before = state_of(observer)
        if chance.random() < 0.5:
            seen = [bridge in (one.routes[number - 1] or ()) for one in simulated]
            record = ("trip", bridge, number, chance.random() < 0.5)
            method = observer.see_trip
        else:
            number = chance.randint(0, number)
            seen = [len([1 for route in one.routes[:number] if bridge in (route or ())]) for one in simulated]
            record = ("total", bridge, number, chance.choice(seen) + chance.choice([0, 0, 0, 1]))
            method = observer.see_total
        remaining = [index for index in before[0] if seen[index] == record[3]]
        if remaining:
            self.assertEqual(method(*record[1:]), len(remaining))
            self.assertEqual(state_of(observer), (remaining, [*before[1], record]))
        else:
            with self.assertRaises(Contradiction):
                method(*record[1:])
            self.assertEqual(state_of(observer), before)

    def test_random_observations(self):
        chance = random.Random(33)
        for _ in range(150):
            towns, trips, simulated = self.candidates_of(chance)
            size = len(towns[0].bridges)
            with self.subTest(towns=[town.text for town in towns], trips=trips):
                observer = Observer(towns, trips)
                for _ in range(6 if size else 0):
                    self.check_sights(observer, simulated, observer.candidates, size)
                    self.check_observation(chance, observer, simulated, size)

    def test_far_observations_against_traffic(self):
        chance = random.Random(34)
        for _ in range(60):
            lives = [chance.randint(LIMIT // 3, LIMIT) for _ in range(4)]
            towns = [Town(3, ((0, 1, 1, life), (1, 2, 1, life // 2), (0, 2, 3, LIMIT))) for life in lives]
            trips = random_trips(chance, towns[0], 4)
            traffics = [Traffic(town, trips) for town in towns]
            observer = Observer(towns, trips)
            for bridge in range(3):
                number = observer.next_sight(bridge)
                self.check_far_sight(traffics, bridge, number)
                if number is not None and number <= LIMIT:
                    wanted = [bridge in (traffic.route_of(number) or ()) for traffic in traffics]
                    self.assertEqual(Observer(towns, trips).see_trip(bridge, number, True), sum(wanted))

    def check_far_sight(self, traffics, bridge, number):
        """Check that traffics agree in each phase before a number, and not at the number."""
        starts = {first for traffic in traffics for first, _, _ in traffic.phases()}
        near = {start + more for start in starts for more in range(-4, 5)}
        for tried in sorted(near | {LIMIT}):
            if 1 <= tried <= LIMIT:
                seen = {bridge in (traffic.route_of(tried) or ()) for traffic in traffics}
                if number is None or tried < number:
                    self.assertEqual(len(seen), 1)
                elif tried == number:
                    self.assertEqual(len(seen), 2)


if __name__ == "__main__":
    unittest.main()
