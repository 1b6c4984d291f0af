"""Point 16: traffic with the changes of a schedule, and what each of them does."""

import random
import unittest

from simulated import Simulated, random_changes, random_town, random_trips, simulated_difference
from wornbridges.errors import InvalidLife, InvalidTrips, UnknownBridge
from wornbridges.schedules import Schedule, first_effects, needed_changes, scheduled_traffic
from wornbridges.towns import Town
from wornbridges.traffic import Traffic
from wornbridges.works import Closing, Mending, Upkeep

LIMIT = 10 ** 18
TOWN = Town(3, ((0, 1, 1, 3), (1, 2, 1, 9), (0, 2, 5, 9)))
TRIPS = ((0, 2, 1),)
FUNCTIONS = (scheduled_traffic, first_effects, needed_changes)


def schedule_of(changes):
    """Return a schedule with a work for each change."""
    works = []
    for change in changes:
        works.append(Closing(*change[1:]) if change[0] == "close" else Mending(*change[1:]))
    return Schedule(*works)


class TrafficTest(unittest.TestCase):
    def test_all_changes_at_position_0(self):
        schedule = Schedule(Closing(9, 1), Upkeep(2, 0, 1, every=4, times=3), Mending(0, 2, LIMIT), Closing(6, 0))
        traffic = scheduled_traffic(TOWN, TRIPS, schedule)
        self.assertEqual(traffic.position, 0)
        self.assertEqual(traffic.changes, list(schedule.planned()))
        self.assertEqual(traffic.lives, (3, 9, 9 + LIMIT))
        self.assertIs(traffic.__class__, Traffic)
        self.assertEqual((traffic.town, traffic.trips), (TOWN, TRIPS))

    def test_no_changes(self):
        traffic = scheduled_traffic(TOWN, TRIPS, Schedule())
        self.assertEqual((traffic.position, traffic.changes, traffic.lives), (0, [], (3, 9, 9)))
        self.assertEqual(list(traffic.phases()), list(Traffic(TOWN, TRIPS).phases()))

    def test_far(self):
        town = Town(2, ((0, 1, 1, LIMIT), (0, 1, 2, 5)))
        schedule = Schedule(Upkeep(LIMIT // 2, 0, 7, every=LIMIT // 2, times=2), Closing(LIMIT - 3, 0))
        traffic = scheduled_traffic(town, ((0, 1, 1),), schedule)
        self.assertEqual(traffic.position, 0)
        self.assertEqual(traffic.lives_after(LIMIT // 2), (LIMIT // 2 + 7, 5))
        self.assertEqual(traffic.lives_after(LIMIT - 4), (4 + 7, 5))
        self.assertEqual(traffic.lives_after(LIMIT - 3), (0, 5))
        self.assertEqual(traffic.lives_after(LIMIT), (7, 2))
        self.assertEqual(list(traffic.routes(LIMIT - 4, LIMIT)), [(0,), (0,), (1,), (1,), (1,)])

    def test_new_traffic_each_time(self):
        schedule = Schedule(Mending(2, 0, 1))
        one, other = scheduled_traffic(TOWN, TRIPS, schedule), scheduled_traffic(TOWN, TRIPS, schedule)
        one.go_to(1)
        one.close(2)
        self.assertEqual((other.position, other.changes), (0, [("mend", 2, 0, 1)]))
        self.assertEqual(list(schedule.planned()), [("mend", 2, 0, 1)])

    def test_against_simulations(self):
        chance = random.Random(51)
        for _ in range(80):
            town = random_town(chance)
            trips = random_trips(chance, town)
            changes = random_changes(chance, town)
            traffic = scheduled_traffic(town, trips, schedule_of(changes))
            simulated = Simulated(town, trips, changes)
            with self.subTest(town=town.text, trips=trips, changes=changes):
                self.assertEqual((traffic.position, traffic.changes), (0, changes))
                for count in range(0, simulated.count, 3):
                    self.assertEqual(traffic.lives_after(count), tuple(simulated.lives[count]))
                    self.assertEqual(traffic.route_of(count + 1), simulated.routes[count])


class EffectTest(unittest.TestCase):
    def test_no_changes(self):
        self.assertEqual(first_effects(TOWN, TRIPS, Schedule()), [])
        self.assertEqual(needed_changes(TOWN, TRIPS, Schedule()), [])

    def test_first_effects(self):
        # Bridge 0 is worn by trip 3, or by trip 5 with its mendings; bridge 2 then bears nine trips, and one more.
        schedule = Schedule(Closing(20, 1), Mending(5, 2, 1), Upkeep(1, 0, 1, every=1, times=2))
        self.assertEqual(list(schedule.planned())[0], ("mend", 1, 0, 1))
        self.assertEqual(first_effects(TOWN, TRIPS, schedule), [5, 5, 15, None])
        wanted = [("mend", 1, 0, 1), ("mend", 2, 0, 1), ("mend", 5, 2, 1)]
        self.assertEqual(needed_changes(TOWN, TRIPS, schedule), wanted)

    def test_changes_that_stand_for_each_other(self):
        # Either one of the closings is enough; the later ones are left out first.
        schedule = Schedule(Closing(1, 0), Closing(1, 0), Closing(2, 1), Closing(2, 0))
        self.assertEqual(first_effects(TOWN, TRIPS, schedule), [None, None, None, None])
        self.assertEqual(needed_changes(TOWN, TRIPS, schedule), [("close", 1, 0)])
        schedule = Schedule(Closing(1, 1), Closing(1, 0))
        self.assertEqual(first_effects(TOWN, TRIPS, schedule), [None, None])
        self.assertEqual(needed_changes(TOWN, TRIPS, schedule), [("close", 1, 1)])

    def test_all_changes_are_needed(self):
        schedule = Schedule(Closing(1, 0), Mending(2, 0, 1), Closing(3, 2))
        self.assertEqual(first_effects(TOWN, TRIPS, schedule), [2, 3, 4])
        self.assertEqual(needed_changes(TOWN, TRIPS, schedule), list(schedule.planned()))

    def test_far(self):
        town = Town(2, ((0, 1, 1, LIMIT), (0, 1, 2, LIMIT)))
        schedule = Schedule(Closing(LIMIT, 0), Mending(LIMIT, 1, 1), Mending(3, 0, 1))
        self.assertEqual(first_effects(town, ((0, 1, 1),), schedule), [None, LIMIT + 1, 2 * LIMIT + 1])
        self.assertEqual(needed_changes(town, ((0, 1, 1),), schedule), [("close", LIMIT, 0), ("mend", LIMIT, 1, 1)])

    def test_sixty_changes(self):
        town = Town(2, ((0, 1, 1, 1),))
        schedule = Schedule(*[Upkeep(turn, 0, 1, every=20, times=3) for turn in range(1, 21)])
        self.assertEqual(first_effects(town, ((0, 1, 1),), schedule), list(range(2, 62)))
        self.assertEqual(needed_changes(town, ((0, 1, 1),), schedule), [("mend", at, 0, 1) for at in range(1, 61)])

    def test_lists_are_the_callers(self):
        schedule = Schedule(Mending(2, 0, 1), Mending(0, 1, 5))
        for _ in range(2):
            for function, wanted in ((first_effects, [None, 4]), (needed_changes, [("mend", 2, 0, 1)])):
                found = function(TOWN, TRIPS, schedule)
                self.assertEqual(found, wanted)
                found.clear()
        every = Schedule(Closing(1, 0))
        needed_changes(TOWN, TRIPS, every).clear()
        self.assertEqual(list(every.planned()), [("close", 1, 0)])

    def test_against_simulations(self):
        chance = random.Random(52)
        lengths = set()
        for _ in range(120):
            town = random_town(chance, places=4, bridges=6, life=12)
            trips = random_trips(chance, town, 3)
            changes = random_changes(chance, town, most=6, last=20, amount=8)
            wanted = Simulated(town, trips, changes)
            with self.subTest(town=town.text, trips=trips, changes=changes):
                effects = []
                for at in range(len(changes)):
                    fewer = Simulated(town, trips, changes[:at] + changes[at + 1:])
                    effects.append(simulated_difference(wanted, fewer))
                self.assertEqual(first_effects(town, trips, schedule_of(changes)), effects)
                needed = list(changes)
                for at in range(len(changes) - 1, -1, -1):
                    fewer = needed[:at] + needed[at + 1:]
                    if simulated_difference(wanted, Simulated(town, trips, fewer)) is None:
                        needed = fewer
                self.assertEqual(needed_changes(town, trips, schedule_of(changes)), needed)
                lengths.add((len(needed), len(changes)))
        self.assertGreater(len(lengths), 12)


class ErrorTest(unittest.TestCase):
    def check_trips(self, index, trips, schedule):
        for function in FUNCTIONS:
            with self.subTest(function=function.__name__):
                with self.assertRaises(InvalidTrips) as caught:
                    function(TOWN, trips, schedule)
                self.assertEqual(caught.exception.index, index)

    def check(self, error, schedule, functions=FUNCTIONS):
        for function in functions:
            with self.subTest(function=function.__name__):
                with self.assertRaises(error):
                    function(TOWN, TRIPS, schedule)

    def test_trips(self):
        for schedule in (Schedule(), Schedule(Closing(1, 0)), Schedule(Closing(1, 23))):
            self.check_trips(-1, (), schedule)
            self.check_trips(-1, TRIPS * 9, schedule)
            self.check_trips(0, ((0, 3, 1),), schedule)
            self.check_trips(2, TRIPS * 2 + ((0, 1, 10),), schedule)

    def test_unknown_bridges(self):
        for work in (Closing(5, 3), Mending(5, 23, 1), Upkeep(5, 3, 1, every=2, times=2)):
            self.check(UnknownBridge, Schedule(work))
            self.check(UnknownBridge, Schedule(Mending(9, 0, 1), work, Closing(1, 2)))

    def test_too_great_a_life(self):
        # Three trips cross bridge 1, of which a life of 6 remains.
        for position in (0, 3, LIMIT - 9):
            much = Upkeep(position, 1, LIMIT, every=1, times=10)
            self.check(InvalidLife, Schedule(much))
            self.check(InvalidLife, Schedule(Mending(0, 2, 1), much))
        nine = Upkeep(0, 2, LIMIT, every=1, times=9)
        self.assertEqual(scheduled_traffic(TOWN, TRIPS, Schedule(nine)).lives_after(8)[2], 9 * LIMIT + 9 - 5)

    def test_as_the_changes_are_made(self):
        # The changes are made by their positions, whatever the order of the works.
        life, bridge = Upkeep(5, 1, LIMIT, every=1, times=10), Closing(7, 3)
        self.check(UnknownBridge, Schedule(life, bridge))
        self.check(UnknownBridge, Schedule(bridge, life))
        self.check(InvalidLife, Schedule(life, Closing(14, 3)))
        self.check(InvalidLife, Schedule(Closing(15, 3), life))
        self.check(UnknownBridge, Schedule(Closing(14, 3), life))

    def test_without_one_of_them(self):
        # Without the closing, the mendings behind it go too far.
        works = (Upkeep(0, 2, LIMIT, every=1, times=6), Closing(6, 2), Upkeep(7, 2, LIMIT, every=1, times=6))
        schedule = Schedule(*works)
        self.assertEqual(scheduled_traffic(TOWN, TRIPS, schedule).lives_after(12)[2], 6 * LIMIT - 5)
        self.check(InvalidLife, schedule, (first_effects, needed_changes))

    def test_a_call_that_raises_changes_nothing(self):
        schedule = Schedule(Closing(1, 0), Closing(2, 3))
        self.check(UnknownBridge, schedule)
        self.assertEqual(list(schedule.planned()), [("close", 1, 0), ("close", 2, 3)])
        self.assertEqual((TOWN.lives, TRIPS), ((3, 9, 9), ((0, 2, 1),)))


if __name__ == "__main__":
    unittest.main()
