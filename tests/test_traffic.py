"""Points 5 and 6: traffic, its position, its lives and its changes."""

import unittest

from wornbridges.errors import InvalidCount, InvalidLife, InvalidTrips, UnknownBridge
from wornbridges.towns import Town
from wornbridges.traffic import Traffic

LIMIT = 10 ** 18
TOWN = Town(3, ((0, 1, 2, 10), (1, 2, 3, 4), (0, 2, 9, 7)))
TRIPS = ((0, 2, 1), (2, 1, 2))


def state_of(traffic):
    """Return what can be seen of traffic."""
    return (traffic.town, traffic.trips, traffic.position, traffic.lives, traffic.changes, list(traffic.phases()))


def single(life, load=1):
    """Return traffic with one bridge and trips over it."""
    return Traffic(Town(2, ((0, 1, 1, life),)), ((0, 1, load),))


class TrafficCase(unittest.TestCase):
    def check_unchanged(self, traffic, error, call, *arguments):
        """Check that a call raises an error and changes nothing."""
        with self.subTest(call=call.__name__, arguments=arguments):
            before = state_of(traffic)
            with self.assertRaises(error):
                call(*arguments)
            self.assertEqual(state_of(traffic), before)


class TripsTest(unittest.TestCase):
    def check_wrong(self, index, *trips):
        with self.subTest(trips=trips):
            with self.assertRaises(InvalidTrips) as caught:
                Traffic(TOWN, trips)
            self.assertEqual(caught.exception.index, index)

    def test_numbers_of_trips(self):
        for number in range(1, 9):
            with self.subTest(number=number):
                self.assertEqual(Traffic(TOWN, ((0, 2, 1),) * number).trips, ((0, 2, 1),) * number)
        for number in (0, 9, 10, 100):
            self.check_wrong(-1, *((0, 2, 1),) * number)

    def test_places(self):
        for place in (-2, -1, 3, 4, LIMIT):
            self.check_wrong(0, (place, 0, 1))
            self.check_wrong(0, (0, place, 1))
            self.check_wrong(2, (0, 1, 1), (1, 0, 1), (place, place, 1), (0, place, 1))
        for place in range(3):
            self.assertEqual(Traffic(TOWN, ((place, 2, 1), (2, place, 1))).position, 0)

    def test_loads(self):
        for load in (-1, 0, 10, 11, LIMIT):
            self.check_wrong(0, (0, 2, load))
            self.check_wrong(1, (0, 2, 1), (0, 2, load), (0, 2, load))
        for load in range(1, 10):
            self.assertEqual(Traffic(TOWN, ((0, 2, load),)).trips, ((0, 2, load),))

    def test_the_number_comes_first(self):
        self.check_wrong(-1, *((0, 3, 1),) * 9)
        self.check_wrong(-1, *((0, 2, 1),) * 8, (0, 2, 10))
        self.check_wrong(7, *((0, 2, 1),) * 7, (0, 2, 10))

    def test_the_first_one_of_several(self):
        self.check_wrong(1, (0, 2, 1), (0, 2, 0), (0, 3, 1))
        self.check_wrong(1, (0, 2, 1), (0, 3, 1), (0, 2, 0))


class TripTest(unittest.TestCase):
    def test_properties(self):
        traffic = Traffic(TOWN, TRIPS)
        self.assertIs(traffic.town, TOWN)
        self.assertEqual((traffic.trips, traffic.position, traffic.changes), (TRIPS, 0, []))
        self.assertEqual(traffic.lives, (10, 4, 7))
        self.assertIsInstance(traffic.trips, tuple)
        self.assertIsInstance(traffic.lives, tuple)

    def test_trips_wear_by_their_load(self):
        wanted = [(10, 4, 7), (9, 3, 7), (9, 1, 7), (8, 0, 7), (6, 0, 5), (6, 0, 4), (4, 0, 2), (4, 0, 1)]
        wanted += [(4, 0, 1), (4, 0, 0), (4, 0, 0), (4, 0, 0)]
        traffic = Traffic(TOWN, TRIPS)
        for count, lives in enumerate(wanted):
            with self.subTest(count=count):
                traffic.go_to(count)
                self.assertEqual((traffic.position, traffic.lives), (count, lives))
                self.assertEqual(traffic.lives_after(count), lives)

    def test_trips_come_in_the_order_of_the_round(self):
        town = Town(4, ((0, 1, 1, 9), (1, 2, 1, 9), (2, 3, 1, 9)))
        traffic = Traffic(town, ((2, 3, 1), (0, 1, 1), (1, 2, 1)))
        self.assertEqual(list(traffic.routes(1, 7)), [(2,), (0,), (1,), (2,), (0,), (1,), (2,)])

    def test_a_failing_trip_wears_nothing(self):
        town = Town(3, ((0, 1, 1, 9), (1, 2, 1, 3)))
        traffic = Traffic(town, ((0, 2, 4),))
        self.assertIsNone(traffic.route_of(1))
        self.assertEqual(traffic.lives_after(LIMIT), (9, 3))

    def test_a_trip_from_a_place_to_itself(self):
        traffic = Traffic(Town(2, ((0, 1, 1, 9),)), ((1, 1, 9), (0, 1, 1)))
        self.assertEqual(traffic.route_of(1), ())
        self.assertEqual(traffic.route_of(LIMIT - 1), ())
        self.assertIsNone(traffic.route_of(LIMIT))
        self.assertEqual(traffic.lives_after(2), (8,))
        # After trip 2 the bridge no longer bears 9, a load of the round, though no trip takes it with 9.
        phases = [(1, 2, ((), (0,))), (3, 18, ((), (0,))), (19, None, ((), None))]
        self.assertEqual(list(traffic.phases()), phases)

    def test_lives_and_loads(self):
        for load in (1, 9):
            for life in (0, load - 1, load, load + 1, 2 * load - 1, 2 * load, LIMIT):
                with self.subTest(load=load, life=life):
                    traffic = single(life, load)
                    passing = life // load
                    self.assertEqual(traffic.lives_after(LIMIT), (life - passing * load,))
                    self.assertEqual(traffic.route_of(LIMIT), (0,) if passing == LIMIT else None)
                    if passing:
                        self.assertEqual(traffic.route_of(passing), (0,))
                        self.assertEqual(traffic.lives_after(passing - 1), (life - passing * load + load,))

    def test_a_town_without_bridges(self):
        traffic = Traffic(Town(1, ()), ((0, 0, 5),))
        self.assertEqual((traffic.lives, traffic.route_of(1), traffic.lives_after(LIMIT)), ((), (), ()))
        self.assertIsNone(Traffic(Town(2, ()), ((0, 1, 5),)).route_of(1))


class PositionTest(TrafficCase):
    def test_set_and_go_to(self):
        traffic = Traffic(TOWN, TRIPS)
        for count in (0, 4, 1, LIMIT, 7, 0):
            with self.subTest(count=count):
                traffic.position = count
                set_lives = traffic.lives
                self.assertEqual((traffic.position, set_lives), (count, traffic.lives_after(count)))
                traffic.position = 3
                self.assertIsNone(traffic.go_to(count))
                self.assertEqual((traffic.position, traffic.lives), (count, set_lives))

    def test_the_position_does_not_change_routes(self):
        traffic = Traffic(TOWN, TRIPS)
        routes = list(traffic.routes(1, 20))
        traffic.go_to(8)
        self.assertEqual(list(traffic.routes(1, 20)), routes)
        self.assertEqual(traffic.lives_after(0), (10, 4, 7))

    def test_out_of_range(self):
        traffic = Traffic(TOWN, TRIPS)
        traffic.go_to(4)
        for count in (-1, LIMIT + 1, -LIMIT, 10 ** 30):
            self.check_unchanged(traffic, InvalidCount, traffic.go_to, count)
            self.check_unchanged(traffic, InvalidCount, setattr, traffic, "position", count)
        self.assertEqual((traffic.position, traffic.lives), (4, (6, 0, 5)))


class ChangesTest(TrafficCase):
    def test_close(self):
        traffic = Traffic(TOWN, TRIPS)
        traffic.go_to(1)
        self.assertIsNone(traffic.close(1))
        self.assertEqual((traffic.position, traffic.lives), (1, (9, 0, 7)))
        self.assertEqual(traffic.changes, [("close", 1, 1)])
        self.assertEqual(list(traffic.routes(1, 3)), [(0, 1), (2, 0), (2,)])

    def test_mend(self):
        traffic = Traffic(TOWN, TRIPS)
        traffic.go_to(3)
        self.assertIsNone(traffic.mend(1, 2))
        self.assertEqual((traffic.position, traffic.lives), (3, (8, 2, 7)))
        self.assertEqual(traffic.changes, [("mend", 3, 1, 2)])
        self.assertEqual(list(traffic.routes(3, 6)), [(0, 1), (1,), (2,), (2, 0)])

    def test_changes_hold_at_smaller_positions(self):
        traffic = Traffic(TOWN, TRIPS)
        traffic.go_to(3)
        traffic.mend(1, 10)
        traffic.go_to(0)
        self.assertEqual((traffic.lives, traffic.changes), ((10, 4, 7), [("mend", 3, 1, 10)]))
        self.assertEqual(traffic.route_of(4), (1,))
        traffic.go_to(3)
        self.assertEqual(traffic.lives, (8, 10, 7))
        traffic.go_to(2)
        self.assertEqual(traffic.lives, (9, 1, 7))

    def test_closing_a_bridge_without_life_is_a_change(self):
        traffic = single(0)
        traffic.close(0)
        traffic.close(0)
        self.assertEqual(traffic.changes, [("close", 0, 0), ("close", 0, 0)])
        traffic.go_to(5)
        traffic.close(0)
        self.assertEqual(traffic.changes, [("close", 0, 0), ("close", 0, 0), ("close", 5, 0)])
        self.assertEqual(list(traffic.phases()), [(1, 5, (None,)), (6, None, (None,))])

    def test_changes_at_the_same_position(self):
        traffic = single(5)
        traffic.go_to(2)
        traffic.mend(0, 7)
        traffic.close(0)
        traffic.mend(0, 1)
        traffic.mend(0, 3)
        self.assertEqual(traffic.lives, (4,))
        self.assertEqual(
            traffic.changes, [("mend", 2, 0, 7), ("close", 2, 0), ("mend", 2, 0, 1), ("mend", 2, 0, 3)]
        )
        self.assertEqual(list(traffic.phases()), [(1, 2, ((0,),)), (3, 6, ((0,),)), (7, None, (None,))])

    def test_changes_at_position_0(self):
        traffic = single(5)
        traffic.mend(0, 3)
        self.assertEqual((traffic.lives, traffic.lives_after(0)), ((8,), (8,)))
        self.assertEqual(list(traffic.phases()), [(1, 8, ((0,),)), (9, None, (None,))])
        traffic.close(0)
        self.assertEqual((traffic.lives, traffic.route_of(1)), ((0,), None))

    def test_changes_at_the_last_position(self):
        traffic = single(LIMIT)
        traffic.go_to(LIMIT)
        self.assertEqual(traffic.lives, (0,))
        traffic.mend(0, 2)
        self.assertEqual(traffic.lives, (2,))
        phases = [(1, LIMIT, ((0,),)), (LIMIT + 1, LIMIT + 2, ((0,),)), (LIMIT + 3, None, (None,))]
        self.assertEqual(list(traffic.phases()), phases)
        traffic.close(0)
        self.assertEqual(list(traffic.phases()), [phases[0], (LIMIT + 1, None, (None,))])

    def test_later_changes_are_forgotten(self):
        traffic = Traffic(TOWN, TRIPS)
        for position in (2, 5, 5, 9):
            traffic.go_to(position)
            traffic.mend(2, position)
        traffic.go_to(5)
        traffic.close(0)
        kept = [("mend", 2, 2, 2), ("mend", 5, 2, 5), ("mend", 5, 2, 5), ("close", 5, 0)]
        self.assertEqual(traffic.changes, kept)
        traffic.go_to(4)
        self.assertEqual(traffic.changes, kept)
        traffic.mend(0, 1)
        self.assertEqual(traffic.changes, [("mend", 2, 2, 2), ("mend", 4, 0, 1)])
        traffic.go_to(0)
        traffic.close(1)
        self.assertEqual(traffic.changes, [("close", 0, 1)])
        fresh = Traffic(TOWN, TRIPS)
        fresh.close(1)
        self.assertEqual(list(traffic.phases()), list(fresh.phases()))

    def test_forgotten_changes_no_longer_part_phases(self):
        traffic = single(10)
        for position in (3, 6):
            traffic.go_to(position)
            traffic.mend(0, 1)
        self.assertEqual([phase[:2] for phase in traffic.phases()], [(1, 3), (4, 6), (7, 12), (13, None)])
        traffic.go_to(4)
        traffic.mend(0, 1)
        self.assertEqual([phase[:2] for phase in traffic.phases()], [(1, 3), (4, 4), (5, 12), (13, None)])

    def test_the_list_of_changes_is_the_callers(self):
        traffic = single(5)
        traffic.close(0)
        traffic.changes.clear()
        self.assertEqual(traffic.changes, [("close", 0, 0)])
        held = traffic.changes
        traffic.mend(0, 1)
        self.assertEqual(held, [("close", 0, 0)])

    def test_two_traffics_of_one_town_are_apart(self):
        one, other = Traffic(TOWN, TRIPS), Traffic(TOWN, TRIPS)
        one.close(0)
        one.go_to(3)
        self.assertEqual((other.position, other.lives, other.changes), (0, (10, 4, 7), []))


class GreatestLifeTest(TrafficCase):
    def test_up_to_the_greatest_life(self):
        traffic = single(LIMIT)
        for time in range(9):
            traffic.mend(0, LIMIT)
            self.assertEqual(traffic.lives, ((time + 2) * LIMIT,))
        self.check_unchanged(traffic, InvalidLife, traffic.mend, 0, 1)
        self.check_unchanged(traffic, InvalidLife, traffic.mend, 0, LIMIT)
        traffic.go_to(1)
        self.check_unchanged(traffic, InvalidLife, traffic.mend, 0, 2)
        traffic.mend(0, 1)
        self.assertEqual(traffic.lives, (10 * LIMIT,))

    def test_just_below_it(self):
        traffic = single(LIMIT - 1)
        for _ in range(9):
            traffic.mend(0, LIMIT)
        self.check_unchanged(traffic, InvalidLife, traffic.mend, 0, 2)
        traffic.mend(0, 1)
        self.assertEqual(traffic.lives, (10 * LIMIT,))

    def test_an_error_forgets_nothing(self):
        traffic = single(LIMIT)
        for _ in range(9):
            traffic.mend(0, LIMIT)
        traffic.go_to(7)
        traffic.close(0)
        traffic.go_to(0)
        self.check_unchanged(traffic, InvalidLife, traffic.mend, 0, 1)
        self.assertEqual(traffic.changes[-1], ("close", 7, 0))


class WrongArgumentsTest(TrafficCase):
    def setUp(self):
        self.traffic = Traffic(TOWN, TRIPS)
        self.traffic.go_to(9)
        self.traffic.close(2)
        self.traffic.go_to(4)

    def test_close(self):
        for bridge in (-2, -1, 3, 4, 24):
            self.check_unchanged(self.traffic, UnknownBridge, self.traffic.close, bridge)

    def test_mend(self):
        for bridge in (-1, 3):
            for amount in (-1, 0, 1, LIMIT, LIMIT + 1):
                self.check_unchanged(self.traffic, UnknownBridge, self.traffic.mend, bridge, amount)
        for amount in (-LIMIT, -1, 0, LIMIT + 1, 10 ** 19, 10 ** 20):
            self.check_unchanged(self.traffic, InvalidCount, self.traffic.mend, 0, amount)

    def test_mend_range_before_life(self):
        for _ in range(9):
            self.traffic.mend(0, LIMIT)
        self.traffic.mend(0, LIMIT - 6)
        self.assertEqual(self.traffic.lives[0], 10 ** 19)
        self.check_unchanged(self.traffic, InvalidCount, self.traffic.mend, 0, LIMIT + 1)
        self.check_unchanged(self.traffic, InvalidLife, self.traffic.mend, 0, LIMIT)
        self.check_unchanged(self.traffic, InvalidLife, self.traffic.mend, 0, 1)

    def test_amounts_in_range(self):
        self.traffic.mend(1, 1)
        self.assertEqual(self.traffic.lives, (6, 1, 5))
        self.traffic.mend(1, LIMIT)
        self.assertEqual(self.traffic.lives, (6, LIMIT + 1, 5))


if __name__ == "__main__":
    unittest.main()
