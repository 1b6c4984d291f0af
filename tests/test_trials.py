"""Point 10: trials, the effects of changes, and the first difference of two traffics."""

import random
import unittest

from simulated import Simulated, make_changes, random_changes, random_town, random_trips, simulated_difference
from wornbridges.errors import InvalidCount, InvalidLife, UnknownBridge
from wornbridges.towns import Town
from wornbridges.traffic import Traffic
from wornbridges.trials import Closed, Mended, effect_of_closing, effect_of_mending, first_difference

LIMIT = 10 ** 18
TOWN = Town(3, ((0, 1, 2, 10), (1, 2, 3, 4), (0, 2, 9, 7)))
TRIPS = ((0, 2, 1), (2, 1, 2))


def state_of(traffic):
    """Return what can be seen of traffic."""
    lives = [traffic.lives_after(count) for count in (0, 1, 5, 20, LIMIT)]
    return (traffic.position, traffic.lives, traffic.changes, lives, list(traffic.phases()))


def changed_traffic():
    """Return traffic at position 4, with changes at 1, 4 and 9."""
    traffic = Traffic(TOWN, TRIPS)
    make_changes(traffic, [("mend", 1, 1, 3), ("close", 4, 0), ("mend", 9, 0, 5)])
    traffic.go_to(4)
    return traffic


class BlockTest(unittest.TestCase):
    def setUp(self):
        self.traffic = changed_traffic()
        self.before = state_of(self.traffic)

    def test_closed(self):
        with Closed(self.traffic, 2):
            self.assertEqual((self.traffic.position, self.traffic.lives), (4, (0, self.before[1][1], 0)))
            self.assertEqual(self.traffic.changes, [("mend", 1, 1, 3), ("close", 4, 0), ("close", 4, 2)])
            self.assertIsNone(self.traffic.route_of(LIMIT - 1))
        self.assertEqual(state_of(self.traffic), self.before)

    def test_mended(self):
        with Mended(self.traffic, 0, 7):
            self.assertEqual((self.traffic.position, self.traffic.lives[0]), (4, 7))
            self.assertEqual(self.traffic.changes, [("mend", 1, 1, 3), ("close", 4, 0), ("mend", 4, 0, 7)])
        self.assertEqual(state_of(self.traffic), self.before)

    def test_as_close_and_mend_do(self):
        other = changed_traffic()
        other.close(1)
        with Closed(self.traffic, 1):
            self.assertEqual(state_of(self.traffic), state_of(other))
        other = changed_traffic()
        other.mend(1, LIMIT)
        with Mended(self.traffic, 1, LIMIT):
            self.assertEqual(state_of(self.traffic), state_of(other))

    def test_whatever_the_block_does(self):
        with Closed(self.traffic, 1):
            self.traffic.go_to(2)
            self.traffic.mend(0, 100)
            self.traffic.position = LIMIT
            self.traffic.close(2)
            self.assertEqual(list(self.traffic.routes(1, 3))[0], (0, 1))
        self.assertEqual(state_of(self.traffic), self.before)
        with Mended(self.traffic, 1, 5):
            self.traffic.go_to(0)
            self.traffic.close(1)
        self.assertEqual(state_of(self.traffic), self.before)

    def test_errors_leave_the_block(self):
        for block in (Closed(self.traffic, 2), Mended(self.traffic, 2, 1)):
            for error in (KeyError, InvalidCount):
                with self.subTest(block=block.__class__.__name__, error=error):
                    with self.assertRaises(error):
                        with block:
                            self.traffic.go_to(7)
                            self.traffic.close(0)
                            raise error()
                    self.assertEqual(state_of(self.traffic), self.before)

    def test_a_block_that_is_left_early(self):
        for _ in range(2):
            with Closed(self.traffic, 2):
                self.traffic.go_to(0)
                continue
        self.assertEqual(state_of(self.traffic), self.before)

    def test_blocks_in_blocks(self):
        with Closed(self.traffic, 1):
            within = state_of(self.traffic)
            with Mended(self.traffic, 1, 9):
                with Closed(self.traffic, 2):
                    self.traffic.go_to(1)
                self.assertEqual(self.traffic.lives[1], 9)
            self.assertEqual(state_of(self.traffic), within)
        self.assertEqual(state_of(self.traffic), self.before)

    def test_one_object_for_several_blocks(self):
        for block in (Closed(self.traffic, 1), Mended(self.traffic, 1, 9)):
            with self.subTest(block=block.__class__.__name__):
                for _ in range(2):
                    with block:
                        within = state_of(self.traffic)
                        with block:
                            self.traffic.go_to(1)
                        self.assertEqual(state_of(self.traffic), within)
                    self.assertEqual(state_of(self.traffic), self.before)

    def test_the_position_is_that_of_the_beginning_of_the_block(self):
        block = Closed(self.traffic, 1)
        self.assertEqual(state_of(self.traffic), self.before)
        self.traffic.go_to(2)
        with block:
            self.assertEqual(self.traffic.changes, [("mend", 1, 1, 3), ("close", 2, 1)])
        self.assertEqual(self.traffic.position, 2)
        self.traffic.go_to(4)
        self.assertEqual(state_of(self.traffic), self.before)

    def test_errors_when_the_block_begins(self):
        self.traffic.mend(2, LIMIT)
        for _ in range(8):
            self.traffic.mend(2, LIMIT)
        self.before = state_of(self.traffic)
        blocks = [(UnknownBridge, Closed(self.traffic, bridge)) for bridge in (-1, 3)]
        blocks += [(UnknownBridge, Mended(self.traffic, bridge, amount)) for bridge in (-1, 3) for amount in (0, 1)]
        blocks += [(InvalidCount, Mended(self.traffic, 2, amount)) for amount in (-1, 0, LIMIT + 1)]
        blocks += [(InvalidLife, Mended(self.traffic, 2, LIMIT))]
        for error, block in blocks:
            with self.subTest(error=error):
                with self.assertRaises(error):
                    with block:
                        self.fail("the block was begun")
                self.assertEqual(state_of(self.traffic), self.before)


class EffectTest(unittest.TestCase):
    def test_closing(self):
        traffic = Traffic(TOWN, TRIPS)
        # The routes are 01, 1, 01, 20, 2, 20, 2, none, 2, and then none.
        for position, wanted in ((0, [1, 1, 4]), (3, [4, None, 4]), (4, [6, None, 5]), (6, [None, None, 7]),
                                 (8, [None, None, 9]), (9, [None, None, None]), (LIMIT, [None, None, None])):
            with self.subTest(position=position):
                traffic.go_to(position)
                self.assertEqual([effect_of_closing(traffic, bridge) for bridge in range(3)], wanted)
                self.assertEqual((traffic.position, traffic.changes), (position, []))

    def test_mending(self):
        traffic = Traffic(TOWN, TRIPS)
        for position, wanted in ((0, [None, 4, 8]), (4, [None, 5, 8]), (8, [None, 9, 10]), (10, [None, 11, 11])):
            with self.subTest(position=position):
                traffic.go_to(position)
                self.assertEqual([effect_of_mending(traffic, bridge, 2) for bridge in range(3)], wanted)
                self.assertEqual((traffic.position, traffic.changes), (position, []))

    def test_later_changes_are_forgotten(self):
        traffic = Traffic(Town(2, ((0, 1, 1, 9), (0, 1, 5, 0))), ((0, 1, 1),))
        self.assertIsNone(effect_of_closing(traffic, 1))
        traffic.go_to(20)
        traffic.mend(1, 3)
        traffic.go_to(0)
        # Bridge 1 is without life anyway, but without its later mending trip 21 fails.
        self.assertEqual(effect_of_closing(traffic, 1), 21)
        self.assertEqual(effect_of_mending(traffic, 0, 4), 10)
        self.assertEqual(effect_of_mending(traffic, 0, 20), 10)
        self.assertEqual(traffic.changes, [("mend", 20, 1, 3)])
        traffic.go_to(20)
        self.assertEqual(effect_of_closing(traffic, 1), 21)
        self.assertEqual(effect_of_mending(traffic, 1, 1), 24)

    def test_a_trip_from_a_place_to_itself_takes_its_empty_route(self):
        traffic = Traffic(TOWN, ((1, 1, 9),))
        for bridge in range(3):
            self.assertIsNone(effect_of_closing(traffic, bridge))
            self.assertIsNone(effect_of_mending(traffic, bridge, LIMIT))

    def test_far_effects(self):
        traffic = Traffic(Town(2, ((0, 1, 1, LIMIT), (0, 1, 5, LIMIT))), ((0, 1, 1),))
        self.assertEqual(effect_of_closing(traffic, 1), LIMIT + 1)
        self.assertEqual(effect_of_mending(traffic, 1, 1), 2 * LIMIT + 1)
        traffic.go_to(LIMIT)
        self.assertEqual(effect_of_closing(traffic, 1), LIMIT + 1)
        self.assertEqual(effect_of_mending(traffic, 0, 1), LIMIT + 1)
        self.assertIsNone(effect_of_closing(traffic, 0))

    def test_wrong_arguments(self):
        traffic = changed_traffic()
        for _ in range(10):
            traffic.mend(0, LIMIT)
        before = state_of(traffic)
        calls = [(UnknownBridge, effect_of_closing, bridge) for bridge in (-1, 3)]
        calls += [(UnknownBridge, effect_of_mending, bridge, amount) for bridge in (-1, 3) for amount in (0, 1)]
        calls += [(InvalidCount, effect_of_mending, 0, amount) for amount in (-1, 0, LIMIT + 1)]
        calls += [(InvalidLife, effect_of_mending, 0, amount) for amount in (1, LIMIT)]
        for error, function, *arguments in calls:
            with self.subTest(function=function.__name__, arguments=arguments):
                with self.assertRaises(error):
                    function(traffic, *arguments)
                self.assertEqual(state_of(traffic), before)


class DifferenceTest(unittest.TestCase):
    def test_none(self):
        traffic = changed_traffic()
        self.assertIsNone(first_difference(traffic, traffic))
        self.assertIsNone(first_difference(traffic, changed_traffic()))
        other = changed_traffic()
        other.go_to(0)
        self.assertIsNone(first_difference(traffic, other))

    def test_rounds_of_different_sizes(self):
        town = Town(2, ((0, 1, 1, LIMIT),))
        there, stay = (0, 1, 1), (0, 0, 1)
        twice = Traffic(town, (there, there, stay) * 2)
        self.assertIsNone(first_difference(Traffic(town, (there, there, stay)), twice))
        self.assertEqual(first_difference(twice, Traffic(town, (there, there))), 3)
        one = Traffic(town, (stay,) * 6 + (there,))
        other = Traffic(town, (stay,) * 7 + (there,))
        self.assertEqual(first_difference(one, other), 7)
        self.assertEqual(first_difference(other, one), 7)
        self.assertIsNone(first_difference(Traffic(town, (stay,) * 7), Traffic(town, (stay,) * 8)))

    def test_later_than_in_the_first_rounds(self):
        # Both go to place 1 in trip 7; then one does in trip 14, the other one in trip 15.
        town = Town(2, ((0, 1, 1, LIMIT),))
        stays = ((0, 0, 1),) * 6
        one, other = Traffic(town, (*stays, (0, 1, 1))), Traffic(town, (*stays, (0, 1, 1), (1, 1, 1)))
        self.assertEqual(first_difference(one, other), 14)
        self.assertEqual(first_difference(other, one), 14)

    def test_a_difference_after_a_change(self):
        town = Town(2, ((0, 1, 1, 0),))
        away, stay = (0, 1, 1), (0, 0, 1)
        one, other = Traffic(town, (away,) * 6 + (stay,)), Traffic(town, (away,) * 7 + (stay,))
        self.assertEqual(first_difference(one, other), 7)
        one, other = Traffic(town, (away,) * 7), Traffic(town, (away,) * 8)
        self.assertIsNone(first_difference(one, other))
        one.go_to(1000)
        one.mend(0, 5)
        self.assertEqual(first_difference(one, other), 1001)

    def test_different_towns(self):
        one = Traffic(Town(2, ((0, 1, 1, 9),)), ((0, 1, 1),))
        other = Traffic(Town(12, ((5, 7, 50, 4), (1, 2, 1, 1))), ((5, 7, 1), (7, 5, 1)))
        self.assertEqual(first_difference(one, other), 5)
        self.assertEqual(first_difference(other, one), 5)

    def test_routes_are_compared_as_tuples(self):
        # The first one fails at once, the second one takes the empty route.
        town = Town(2, ())
        self.assertEqual(first_difference(Traffic(town, ((0, 1, 1),)), Traffic(town, ((0, 0, 1),))), 1)
        self.assertIsNone(first_difference(Traffic(town, ((0, 1, 1),)), Traffic(town, ((1, 0, 9),))))

    def test_far(self):
        one = Traffic(Town(2, ((0, 1, 1, LIMIT),)), ((0, 1, 1),))
        other = Traffic(Town(2, ((0, 1, 1, LIMIT - 1),)), ((0, 1, 1),))
        self.assertEqual(first_difference(one, other), LIMIT)
        one.go_to(LIMIT)
        one.mend(0, 1)
        same = Traffic(Town(2, ((0, 1, 1, LIMIT),)), ((0, 1, 1),))
        self.assertEqual(first_difference(one, same), LIMIT + 1)


class SimulationTest(unittest.TestCase):
    def random_traffic(self, chance):
        town = random_town(chance)
        trips = random_trips(chance, town)
        changes = random_changes(chance, town)
        traffic = Traffic(town, trips)
        make_changes(traffic, changes)
        return traffic, Simulated(town, trips, changes)

    def test_effects(self):
        chance = random.Random(21)
        for _ in range(80):
            traffic, simulated = self.random_traffic(chance)
            traffic.go_to(chance.randint(0, 30))
            before = state_of(traffic)
            early = [change for change in traffic.changes if change[1] <= traffic.position]
            for bridge in range(len(traffic.town.bridges)):
                amount = chance.randint(1, 20)
                with self.subTest(town=traffic.town.text, trips=traffic.trips, changes=traffic.changes, bridge=bridge):
                    changed = [*early, ("close", traffic.position, bridge)]
                    other = Simulated(traffic.town, traffic.trips, changed)
                    self.assertEqual(effect_of_closing(traffic, bridge), simulated_difference(simulated, other))
                    changed = [*early, ("mend", traffic.position, bridge, amount)]
                    other = Simulated(traffic.town, traffic.trips, changed)
                    self.assertEqual(effect_of_mending(traffic, bridge, amount), simulated_difference(simulated, other))
            self.assertEqual(state_of(traffic), before)

    def test_differences(self):
        chance = random.Random(22)
        for _ in range(150):
            one, one_simulated = self.random_traffic(chance)
            other, other_simulated = self.random_traffic(chance)
            with self.subTest(one=(one.town.text, one.trips), other=(other.town.text, other.trips)):
                wanted = simulated_difference(one_simulated, other_simulated)
                self.assertEqual(first_difference(one, other), wanted)
                self.assertEqual(first_difference(other, one), wanted)

    def test_differences_of_like_traffics(self):
        chance = random.Random(23)
        for _ in range(80):
            one, one_simulated = self.random_traffic(chance)
            lives = [max(0, life + chance.choice([-2, 0, 0, 0, 1])) for life in one.town.lives]
            bridges = [(*bridge[:3], life) for bridge, life in zip(one.town.bridges, lives)]
            town = Town(one.town.place_count, tuple(bridges))
            trips = one.trips * chance.choice([1, 1, 8 // len(one.trips)])
            other = Traffic(town, trips)
            make_changes(other, one.changes)
            with self.subTest(one=(one.town.text, one.trips), other=(town.text, trips), changes=one.changes):
                wanted = simulated_difference(one_simulated, Simulated(town, trips, one.changes))
                self.assertEqual(first_difference(one, other), wanted)


if __name__ == "__main__":
    unittest.main()
