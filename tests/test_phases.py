"""Point 7: routes and lives by number, and phases, also against a simulation."""

import random
import unittest

from simulated import Simulated, far_town, make_changes, random_changes, random_town, random_trips
from wornbridges.errors import InvalidCount
from wornbridges.routes import shortest_route
from wornbridges.towns import Town
from wornbridges.traffic import Traffic

LIMIT = 10 ** 18
TOWN = Town(3, ((0, 1, 2, 10), (1, 2, 3, 4), (0, 2, 9, 7)))
TRIPS = ((0, 2, 1), (2, 1, 2))


class RoutesTest(unittest.TestCase):
    def setUp(self):
        self.traffic = Traffic(TOWN, TRIPS)

    def test_route_of(self):
        wanted = [(0, 1), (1,), (0, 1), (2, 0), (2,), (2, 0), (2,), None, (2,), None, None, None]
        self.assertEqual([self.traffic.route_of(number) for number in range(1, 13)], wanted)
        self.assertEqual(list(self.traffic.routes(1, 12)), wanted)
        self.assertEqual(list(self.traffic.routes(3, 8)), wanted[2:8])

    def test_numbers_of_trips(self):
        for number in (1, LIMIT - 1, LIMIT):
            with self.subTest(number=number):
                self.assertEqual(list(self.traffic.routes(number, number)), [self.traffic.route_of(number)])
        for number in (-LIMIT, -1, 0, LIMIT + 1, LIMIT + 2, 10 ** 30):
            with self.subTest(number=number):
                with self.assertRaises(InvalidCount):
                    self.traffic.route_of(number)

    def test_lives_after(self):
        self.assertEqual(self.traffic.lives_after(0), (10, 4, 7))
        self.assertEqual(self.traffic.lives_after(LIMIT), (4, 0, 0))
        for count in (-LIMIT, -1, LIMIT + 1, 10 ** 30):
            with self.subTest(count=count):
                with self.assertRaises(InvalidCount):
                    self.traffic.lives_after(count)

    def test_ranges_of_routes(self):
        self.assertEqual(len(list(self.traffic.routes(1, 1000))), 1000)
        self.assertEqual(len(list(self.traffic.routes(LIMIT - 999, LIMIT))), 1000)
        self.assertEqual(len(list(self.traffic.routes(7, 7))), 1)
        wrong = [(1, 1001), (5, 1005), (LIMIT - 1000, LIMIT), (2, 1), (LIMIT, 1), (0, 5), (-1, 1), (0, 0), (1, 0)]
        wrong += [(LIMIT, LIMIT + 1), (LIMIT + 1, LIMIT + 1), (1, LIMIT), (LIMIT + 1, 1), (-5, 1000)]
        for first, last in wrong:
            with self.subTest(first=first, last=last):
                with self.assertRaises(InvalidCount):
                    list(self.traffic.routes(first, last))

    def test_lives_after_include_the_changes_made_then(self):
        self.traffic.go_to(3)
        self.traffic.mend(1, 10)
        self.traffic.close(2)
        self.assertEqual(self.traffic.lives_after(2), (9, 1, 7))
        self.assertEqual(self.traffic.lives_after(3), (8, 10, 0))
        self.assertEqual(self.traffic.lives_after(4), (8, 8, 0))

    def test_a_change_during_an_iteration(self):
        routes = list(self.traffic.routes(1, 8))
        phases = list(self.traffic.phases())
        seen_routes, seen_phases = [], []
        for route in self.traffic.routes(1, 8):
            seen_routes.append(route)
            self.traffic.close(0)
        self.assertEqual(seen_routes, routes)
        fresh = Traffic(TOWN, TRIPS)
        for phase in fresh.phases():
            seen_phases.append(phase)
            fresh.close(0)
        self.assertEqual(seen_phases, phases)


class PhasesTest(unittest.TestCase):
    def test_phases(self):
        traffic = Traffic(TOWN, TRIPS)
        wanted = [(1, 2, ((0, 1), (1,))), (3, 3, ((0, 1), (2, 0))), (4, 7, ((2,), (2, 0))), (8, 9, ((2,), None))]
        wanted.append((10, None, (None, None)))
        self.assertEqual(list(traffic.phases()), wanted)
        traffic.go_to(5)
        self.assertEqual(list(traffic.phases()), wanted)
        self.assertEqual(list(traffic.phases()), wanted)

    def test_a_phase_that_never_ends(self):
        traffic = Traffic(Town(2, ((0, 1, 1, 5),)), ((0, 0, 9),))
        self.assertEqual(list(traffic.phases()), [(1, None, ((),))])

    def test_only_loads_of_the_round_count(self):
        town = Town(2, ((0, 1, 1, 12),))
        self.assertEqual([phase[:2] for phase in Traffic(town, ((0, 1, 3),)).phases()], [(1, 4), (5, None)])
        # A trip from a place to itself crosses no bridge, but its load counts.
        trips = ((0, 1, 3), (0, 0, 5))
        self.assertEqual([phase[:2] for phase in Traffic(town, trips).phases()], [(1, 5), (6, 7), (8, None)])

    def test_a_bridge_that_is_on_no_route_counts(self):
        # Bridge 1 wears by the second kind; the first one never takes it, but it would bear its load.
        town = Town(3, ((0, 1, 1, LIMIT), (1, 2, 1, 6)))
        traffic = Traffic(town, ((0, 1, 4), (1, 2, 1)))
        self.assertEqual([phase[:2] for phase in traffic.phases()][:2], [(1, 6), (7, 12)])

    def test_two_bridges_wear_out_at_once(self):
        town = Town(3, ((0, 1, 1, 3), (1, 2, 1, 3)))
        traffic = Traffic(town, ((0, 2, 1),))
        self.assertEqual(list(traffic.phases()), [(1, 3, ((0, 1),)), (4, None, (None,))])

    def test_phases_begin_at_changes(self):
        traffic = Traffic(Town(2, ((0, 1, 1, 10), (0, 1, 5, 0))), ((0, 1, 1),))
        traffic.go_to(4)
        traffic.close(1)
        self.assertEqual([phase[:2] for phase in traffic.phases()], [(1, 4), (5, 10), (11, None)])
        traffic.go_to(10)
        traffic.close(1)
        self.assertEqual([phase[:2] for phase in traffic.phases()], [(1, 4), (5, 10), (11, None)])
        traffic.go_to(12)
        traffic.close(1)
        self.assertEqual([phase[:2] for phase in traffic.phases()], [(1, 4), (5, 10), (11, 12), (13, None)])

    def test_a_change_at_position_0_parts_nothing(self):
        traffic = Traffic(Town(2, ((0, 1, 1, 10),)), ((0, 1, 1),))
        traffic.mend(0, 2)
        self.assertEqual([phase[:2] for phase in traffic.phases()], [(1, 12), (13, None)])

    def test_routes_that_trips_would_take(self):
        # The third kind is never made in the first phase, and its route is told nevertheless.
        town = Town(2, ((0, 1, 1, 2), (0, 1, 2, 10)))
        traffic = Traffic(town, ((0, 1, 1), (1, 0, 2), (1, 0, 1)))
        self.assertEqual(next(iter(traffic.phases())), (1, 1, ((0,), (0,), (0,))))


class SimulationTest(unittest.TestCase):
    def check_traffic(self, traffic, simulated):
        self.assertEqual(traffic.changes, simulated.changes)
        self.assertEqual(list(traffic.phases()), simulated.phases())
        self.assertEqual([traffic.lives_after(count) for count in range(simulated.count)], [
            tuple(lives) for lives in simulated.lives[:-1]
        ])
        last = min(1000, simulated.count)
        self.assertEqual(list(traffic.routes(1, last)), simulated.routes[:last])
        for number in range(1, simulated.count + 1, 7):
            self.assertEqual(traffic.route_of(number), simulated.routes[number - 1])

    def test_without_changes(self):
        chance = random.Random(5)
        for _ in range(80):
            town = random_town(chance)
            trips = random_trips(chance, town)
            with self.subTest(town=town.text, trips=trips):
                self.check_traffic(Traffic(town, trips), Simulated(town, trips, []))

    def test_with_changes(self):
        chance = random.Random(6)
        for _ in range(120):
            town = random_town(chance)
            trips = random_trips(chance, town)
            changes = random_changes(chance, town)
            with self.subTest(town=town.text, trips=trips, changes=changes):
                traffic = Traffic(town, trips)
                make_changes(traffic, changes)
                self.check_traffic(traffic, Simulated(town, trips, changes))

    def test_with_forgotten_changes(self):
        chance = random.Random(7)
        for _ in range(60):
            town = random_town(chance)
            trips = random_trips(chance, town)
            traffic = Traffic(town, trips)
            made = []
            for _ in range(4):
                changes = random_changes(chance, town, 2)
                for change in changes:
                    made = [one for one in made if one[1] <= change[1]] + [change]
                make_changes(traffic, changes)
                with self.subTest(town=town.text, trips=trips, changes=made):
                    self.check_traffic(traffic, Simulated(town, trips, made))

    def test_the_first_phase_of_a_greatest_town(self):
        chance = random.Random(8)
        for _ in range(5):
            pairs = [chance.sample(range(12), 2) for _ in range(24)]
            town = Town(12, tuple([(one, other, 1, chance.randint(0, 12)) for one, other in pairs]))
            trips = tuple([(*chance.sample(range(12), 2), chance.randint(1, 9)) for _ in range(8)])
            with self.subTest(town=town.text, trips=trips):
                self.check_traffic(Traffic(town, trips), Simulated(town, trips, []))


class FarTest(unittest.TestCase):
    """Far numbers of trips: what phases tell must fit the lives, and the lives the routes."""

    def far_traffic(self, chance):
        town = far_town(chance)
        traffic = Traffic(town, random_trips(chance, town))
        make_changes(traffic, random_changes(chance, town, 5, LIMIT, LIMIT))
        return traffic

    def test_phases_fit_lives_and_routes(self):
        chance = random.Random(9)
        for _ in range(60):
            traffic = self.far_traffic(chance)
            with self.subTest(town=traffic.town.text, trips=traffic.trips, changes=traffic.changes):
                phases = [phase for phase in traffic.phases() if phase[0] <= LIMIT]
                self.assertEqual(phases[0][0], 1)
                for number, phase in enumerate(phases):
                    self.check_phase(traffic, *phase)
                    if number + 1 < len(phases):
                        self.assertEqual(phases[number + 1][0], phase[1] + 1)

    def check_phase(self, traffic, first, last, routes):
        """Check that a phase is one, and that it ends where it must."""
        end = LIMIT if last is None or last > LIMIT else last
        start_lives = traffic.lives_after(first - 1)
        found = [shortest_route(traffic.town, start_lives, *trip) for trip in traffic.trips]
        self.assertEqual(routes, tuple(found))
        self.check_lives(traffic, first, end, routes)
        bearing = self.bearing(traffic, start_lives)
        # Between changes lives never increase, so that nothing happens between two equal bearings.
        self.assertEqual(self.bearing(traffic, traffic.lives_after(end - 1)), bearing)
        if end == last and end not in [change[1] for change in traffic.changes]:
            self.assertNotEqual(self.bearing(traffic, traffic.lives_after(end)), bearing)
        for number in {first, end, (first + end) // 2}:
            self.assertEqual(traffic.route_of(number), routes[(number - 1) % len(routes)])

    def check_lives(self, traffic, first, end, routes):
        """Check the lives within a phase against how often each kind is made."""
        for count in {first - 1, (first + end - 1) // 2, end - 1}:
            lives = list(traffic.lives_after(first - 1))
            for kind, trip in enumerate(traffic.trips):
                begin = first + (kind + 1 - first) % len(routes)
                times = len(range(begin, count + 1, len(routes)))
                for bridge in routes[kind] or ():
                    lives[bridge] -= trip[2] * times
            self.assertEqual(traffic.lives_after(count), tuple(lives))

    def bearing(self, traffic, lives):
        return [[life >= trip[2] for trip in traffic.trips] for life in lives]

    def test_many_rounds(self):
        traffic = Traffic(Town(2, ((0, 1, 1, LIMIT),)), ((0, 1, 3), (1, 0, 4)))
        # 10 ** 18 - 4 can be spared until the bridge no longer bears 4: 7 in each round, then 3, and 1 remains.
        rounds, rest = divmod(LIMIT - 4, 7)
        self.assertEqual(rest, 4)
        last = 2 * rounds + 2
        self.assertEqual(list(traffic.phases()), [(1, last, ((0,), (0,))), (last + 1, None, (None, None))])
        self.assertEqual([traffic.lives_after(last - back) for back in range(3)], [(1,), (5,), (8,)])
        self.assertEqual(traffic.lives_after(LIMIT), (1,))

    def test_phases_beyond_the_last_trip(self):
        traffic = Traffic(Town(2, ((0, 1, 1, LIMIT),)), ((0, 0, 1), (0, 1, 1)))
        phases = [(1, 2 * LIMIT, ((), (0,))), (2 * LIMIT + 1, None, ((), None))]
        self.assertEqual(list(traffic.phases()), phases)
        traffic.mend(0, LIMIT)
        self.assertEqual([phase[:2] for phase in traffic.phases()], [(1, 4 * LIMIT), (4 * LIMIT + 1, None)])


if __name__ == "__main__":
    unittest.main()
