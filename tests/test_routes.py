"""Points 1 and 4: routes, their lengths, and the places that they reach."""

import random
import unittest

from wornbridges.errors import InvalidLoad, UnknownBridge, UnknownPlace
from wornbridges.routes import reached_places, route_length, shortest_route
from wornbridges.towns import Town

TOWN = Town(4, ((0, 1, 2, 10), (1, 2, 3, 4), (0, 2, 9, 7)))
LIVES = TOWN.lives


def town_of(count, *rows):
    """Return a town with bridges (one, other, length), each with a life of 9."""
    return Town(count, tuple([(one, other, length, 9) for one, other, length in rows]))


def simple_routes(town, remaining, one, other, load):
    """Return all routes between two places that come to no place twice, found by trying."""
    routes = []
    ways = [((), [one])]
    while ways:
        route, places = ways.pop()
        if places[-1] == other:
            routes.append(route)
            continue
        for bridge, (start, end, _, _) in enumerate(town.bridges):
            if remaining[bridge] < load or places[-1] not in (start, end):
                continue
            beyond = end if places[-1] == start else start
            if beyond not in places:
                ways.append((route + (bridge,), places + [beyond]))
    return routes


def length_of(town, route):
    return sum([town.bridges[bridge][2] for bridge in route])


class ShortestRouteTest(unittest.TestCase):
    def test_the_shortest(self):
        self.assertEqual(shortest_route(TOWN, LIVES, 0, 2, 1), (0, 1))
        self.assertEqual(shortest_route(TOWN, LIVES, 0, 1, 1), (0,))
        self.assertEqual(shortest_route(TOWN, LIVES, 1, 2, 1), (1,))

    def test_in_both_directions(self):
        self.assertEqual(shortest_route(TOWN, LIVES, 2, 0, 1), (1, 0))
        self.assertEqual(shortest_route(TOWN, LIVES, 1, 0, 1), (0,))

    def test_length_counts_and_not_the_number_of_bridges(self):
        town = town_of(3, (0, 2, 99), (0, 1, 49), (1, 2, 49))
        self.assertEqual(shortest_route(town, town.lives, 0, 2, 1), (1, 2))
        town = town_of(3, (0, 2, 97), (0, 1, 49), (1, 2, 49))
        self.assertEqual(shortest_route(town, town.lives, 0, 2, 1), (0,))

    def test_none(self):
        self.assertIsNone(shortest_route(TOWN, LIVES, 0, 3, 1))
        self.assertIsNone(shortest_route(TOWN, LIVES, 3, 0, 1))
        self.assertIsNone(shortest_route(TOWN, (0, 0, 0), 0, 2, 1))
        self.assertIsNone(shortest_route(Town(2, ()), (), 0, 1, 9))

    def test_from_a_place_to_itself(self):
        for place in range(4):
            with self.subTest(place=place):
                self.assertEqual(shortest_route(TOWN, LIVES, place, place, 9), ())
                self.assertEqual(shortest_route(TOWN, (0, 0, 0), place, place, 1), ())
        self.assertEqual(shortest_route(Town(1, ()), (), 0, 0, 1), ())

    def test_loads_and_lives(self):
        town = town_of(2, (0, 1, 1))
        for load in range(1, 10):
            with self.subTest(load=load):
                self.assertEqual(shortest_route(town, (load + 1,), 0, 1, load), (0,))
                self.assertEqual(shortest_route(town, (load,), 0, 1, load), (0,))
                self.assertIsNone(shortest_route(town, (load - 1,), 0, 1, load))

    def test_remaining_lives_count_and_not_those_of_the_town(self):
        self.assertEqual(shortest_route(TOWN, (10, 3, 7), 0, 2, 4), (2,))
        self.assertEqual(shortest_route(TOWN, (10, 4, 7), 0, 2, 4), (0, 1))
        self.assertEqual(shortest_route(TOWN, (10, 10 ** 19, 0), 0, 2, 9), (0, 1))

    def test_only_the_bridges_on_the_way_must_bear(self):
        self.assertEqual(shortest_route(TOWN, (0, 0, 5), 0, 2, 5), (2,))
        self.assertEqual(shortest_route(TOWN, (5, 5, 0), 0, 2, 5), (0, 1))
        self.assertIsNone(shortest_route(TOWN, (5, 4, 4), 0, 2, 5))

    def test_kind_of_the_result(self):
        self.assertIsInstance(shortest_route(TOWN, LIVES, 0, 2, 1), tuple)
        self.assertIsInstance(shortest_route(TOWN, LIVES, 0, 0, 1), tuple)


class FirstRouteTest(unittest.TestCase):
    def check_route(self, town, one, other, route):
        self.assertEqual(shortest_route(town, town.lives, one, other, 1), route)

    def test_side_by_side(self):
        town = town_of(2, (0, 1, 5), (0, 1, 4), (1, 0, 4), (0, 1, 4))
        self.check_route(town, 0, 1, (1,))
        self.check_route(town, 1, 0, (1,))
        self.assertEqual(shortest_route(town, (9, 0, 9, 9), 0, 1, 1), (2,))
        self.assertEqual(shortest_route(town, (9, 0, 0, 9), 0, 1, 1), (3,))
        self.assertEqual(shortest_route(town, (9, 0, 0, 0), 0, 1, 1), (0,))

    def test_side_by_side_on_the_way(self):
        town = town_of(3, (1, 2, 1), (0, 1, 1), (2, 1, 1), (1, 0, 1))
        self.check_route(town, 0, 2, (1, 0))
        self.check_route(town, 2, 0, (0, 1))

    def test_the_first_bridge_decides(self):
        town = town_of(4, (0, 1, 1), (0, 2, 1), (2, 3, 1), (1, 3, 1))
        self.check_route(town, 0, 3, (0, 3))
        self.check_route(town, 3, 0, (2, 1))

    def test_fewer_bridges_do_not_win(self):
        town = town_of(4, (0, 1, 1), (1, 2, 1), (2, 3, 1), (1, 3, 2))
        self.check_route(town, 0, 3, (0, 1, 2))
        town = town_of(4, (0, 1, 1), (1, 3, 2), (1, 2, 1), (2, 3, 1))
        self.check_route(town, 0, 3, (0, 1))

    def test_a_late_place_with_an_early_bridge(self):
        # The way over bridge 0 comes to its second place later, and is the first one nevertheless.
        town = town_of(4, (0, 1, 8), (0, 2, 1), (1, 3, 1), (2, 3, 8))
        self.check_route(town, 0, 3, (0, 2))

    def test_numbers_are_not_compared_as_texts(self):
        rows = [(2, 3, 9)] * 2 + [(0, 1, 5)] + [(2, 3, 9)] * 7 + [(0, 1, 5)]
        self.check_route(town_of(4, *rows), 0, 1, (2,))

    def test_against_all_routes(self):
        chance = random.Random(1)
        for _ in range(250):
            count = chance.randint(1, 6)
            pairs = [(one, other) for one in range(count) for other in range(count) if one != other]
            rows = [(*chance.choice(pairs), chance.randint(1, 3)) for _ in range(chance.randint(0, 9)) if pairs]
            town = town_of(count, *rows)
            remaining = tuple([chance.randint(0, 4) for _ in rows])
            self.check_all_places(town, remaining, chance.randint(1, 4))

    def check_all_places(self, town, remaining, load):
        for one in range(town.place_count):
            reached = []
            for other in range(town.place_count):
                routes = simple_routes(town, remaining, one, other, load)
                best = min([(length_of(town, route), route) for route in routes], default=(0, None))[1]
                self.assertEqual(shortest_route(town, remaining, one, other, load), best)
                reached += [other] if routes else []
            self.assertEqual(reached_places(town, remaining, one, load), reached)

    def test_the_greatest_town(self):
        rows = [(place, place + 1, 99) for place in range(11)]
        town = town_of(12, *rows, *rows, (0, 11, 99), (0, 11, 98))
        self.check_route(town, 0, 11, (23,))
        lives = town.lives[:22] + (0, 0)
        self.assertEqual(shortest_route(town, lives, 0, 11, 9), tuple(range(11)))
        self.assertEqual(reached_places(town, lives, 5, 9), list(range(12)))


class RouteLengthTest(unittest.TestCase):
    def test_lengths(self):
        for route, length in (((), 0), ((0,), 2), ((1,), 3), ((2,), 9), ((0, 1), 5), ((2, 1, 0), 14)):
            with self.subTest(route=route):
                self.assertEqual(route_length(TOWN, route), length)

    def test_a_bridge_counts_as_often_as_it_is_crossed(self):
        self.assertEqual(route_length(TOWN, (0, 0, 0)), 6)

    def test_of_a_shortest_route(self):
        self.assertEqual(route_length(TOWN, shortest_route(TOWN, LIVES, 2, 0, 1)), 5)

    def test_unknown_bridge(self):
        for route in ((-1,), (3,), (4,), (0, 3), (0, -1), (3, 0), (-1, 0), (0, 1, 2, 3)):
            with self.subTest(route=route):
                with self.assertRaises(UnknownBridge):
                    route_length(TOWN, route)

    def test_town_without_bridges(self):
        self.assertEqual(route_length(Town(1, ()), ()), 0)
        with self.assertRaises(UnknownBridge):
            route_length(Town(1, ()), (0,))


class ReachedPlacesTest(unittest.TestCase):
    def test_reached(self):
        self.assertEqual(reached_places(TOWN, LIVES, 0, 1), [0, 1, 2])
        self.assertEqual(reached_places(TOWN, LIVES, 3, 1), [3])
        self.assertEqual(reached_places(TOWN, (10, 0, 0), 1, 1), [0, 1])
        self.assertEqual(reached_places(TOWN, (0, 0, 0), 2, 1), [2])
        self.assertEqual(reached_places(Town(1, ()), (), 0, 9), [0])

    def test_ascending(self):
        town = town_of(5, (4, 2, 1), (2, 0, 9), (4, 3, 5))
        for place in (0, 2, 3, 4):
            with self.subTest(place=place):
                self.assertEqual(reached_places(town, town.lives, place, 9), [0, 2, 3, 4])

    def test_loads_and_lives(self):
        for load in range(1, 10):
            with self.subTest(load=load):
                town = town_of(3, (0, 1, 1), (1, 2, 1))
                self.assertEqual(reached_places(town, (load, load), 0, load), [0, 1, 2])
                self.assertEqual(reached_places(town, (load, load - 1), 0, load), [0, 1])
                self.assertEqual(reached_places(town, (load - 1, load), 0, load), [0])

    def test_the_caller_may_modify_the_list(self):
        places = reached_places(TOWN, LIVES, 0, 1)
        self.assertIsInstance(places, list)
        places.clear()
        self.assertEqual(reached_places(TOWN, LIVES, 0, 1), [0, 1, 2])


class WrongArgumentsTest(unittest.TestCase):
    def test_first_place(self):
        for place in (-2, -1, 4, 5):
            for other in (0, -1, 4):
                for load in (0, 1, 10):
                    with self.subTest(place=place, other=other, load=load):
                        with self.assertRaises(UnknownPlace):
                            shortest_route(TOWN, LIVES, place, other, load)

    def test_second_place(self):
        for other in (-2, -1, 4, 5):
            for load in (0, 1, 10):
                with self.subTest(other=other, load=load):
                    with self.assertRaises(UnknownPlace):
                        shortest_route(TOWN, LIVES, 0, other, load)

    def test_the_same_unknown_place(self):
        for place in (-1, 4):
            with self.subTest(place=place):
                with self.assertRaises(UnknownPlace):
                    shortest_route(TOWN, LIVES, place, place, 1)

    def test_loads(self):
        for load in (-1, 0, 10, 11):
            for other in (0, 2, 3):
                with self.subTest(load=load, other=other):
                    with self.assertRaises(InvalidLoad):
                        shortest_route(TOWN, LIVES, 0, other, load)
        for load in (1, 9):
            with self.subTest(load=load):
                self.assertEqual(shortest_route(TOWN, (9, 9, 9), 0, 2, load), (0, 1))

    def test_reached_places(self):
        for place in (-1, 4):
            for load in (0, 1, 9, 10):
                with self.subTest(place=place, load=load):
                    with self.assertRaises(UnknownPlace):
                        reached_places(TOWN, LIVES, place, load)
        for load in (0, 10):
            with self.subTest(load=load):
                with self.assertRaises(InvalidLoad):
                    reached_places(TOWN, LIVES, 0, load)
        for load in (1, 9):
            with self.subTest(load=load):
                self.assertEqual(reached_places(TOWN, (9, 9, 9), 0, load), [0, 1, 2])

    def test_an_error_changes_nothing_and_calls_repeat(self):
        for _ in range(2):
            with self.assertRaises(InvalidLoad):
                shortest_route(TOWN, LIVES, 0, 2, 0)
            self.assertEqual(shortest_route(TOWN, LIVES, 0, 2, 1), (0, 1))
            self.assertEqual(route_length(TOWN, (0, 1)), 5)
        self.assertEqual(TOWN.bridges, ((0, 1, 2, 10), (1, 2, 3, 4), (0, 2, 9, 7)))


if __name__ == "__main__":
    unittest.main()
