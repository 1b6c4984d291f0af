"""Point 17: events."""

import inspect
import random
import unittest

from simulated import Simulated, make_changes, random_changes, random_town, random_trips, tried_route
from wornbridges.errors import InvalidCount
from wornbridges.events import events
from wornbridges.towns import Town
from wornbridges.traffic import Traffic

LIMIT = 10 ** 18
TOWN = Town(3, ((0, 1, 1, 3), (1, 2, 1, 9), (0, 2, 5, 9)))
TRIPS = ((0, 2, 1),)


def made_traffic(town, trips, changes):
    traffic = Traffic(town, trips)
    make_changes(traffic, changes)
    return traffic


def changes_at(changes, position):
    return [(position, change[0], *change[2:]) for change in changes if change[1] == position]


def route_event(town, number, kind, old, new):
    """Return the event of a kind with an old and a new route."""
    if new is None:
        return (number, "lost", kind)
    if old is None:
        return (number, "found", kind)
    lengths = [sum([town.bridges[bridge][2] for bridge in route]) for route in (old, new)]
    return (number, "detour", kind, *lengths)


def simulated_events(town, trips, changes):
    """Return the list of all events of simulated traffic, trip by trip, and how many trips were simulated."""
    simulated = Simulated(town, trips, changes)
    loads = sorted({trip[2] for trip in trips})
    found = changes_at(changes, 0)
    for number, route in enumerate(simulated.routes, 1):
        before, after = simulated.lives[number - 1], list(simulated.lives[number - 1])
        for bridge in route or ():
            after[bridge] -= trips[(number - 1) % len(trips)][2]
        for bridge in range(len(before)):
            found += [(number, "worn", bridge, load) for load in loads if before[bridge] >= load > after[bridge]]
        found += changes_at(changes, number)
        if before != simulated.lives[number]:
            for kind, trip in enumerate(trips):
                old, new = tried_route(town, before, trip), tried_route(town, simulated.lives[number], trip)
                if old != new:
                    found.append(route_event(town, number, kind, old, new))
    return found, simulated.count


class EventTest(unittest.TestCase):
    def test_worn_lost_and_detour(self):
        traffic = Traffic(TOWN, TRIPS)
        wanted = [(3, "worn", 0, 1), (3, "detour", 0, 2, 5), (12, "worn", 2, 1), (12, "lost", 0)]
        self.assertEqual(list(events(traffic, LIMIT)), wanted)

    def test_found(self):
        traffic = made_traffic(TOWN, TRIPS, [("mend", 15, 2, 2), ("mend", 15, 0, 1)])
        wanted = [
            (3, "worn", 0, 1), (3, "detour", 0, 2, 5), (12, "worn", 2, 1), (12, "lost", 0),
            (15, "mend", 2, 2), (15, "mend", 0, 1), (15, "found", 0),
            (16, "worn", 0, 1), (16, "detour", 0, 2, 5), (18, "worn", 2, 1), (18, "lost", 0),
        ]
        self.assertEqual(list(events(traffic, LIMIT)), wanted)

    def test_several_loads_and_bridges_worn_by_one_trip(self):
        # Trip 1 takes from each bridge what makes it bear 1, 3 and 4 no more, or 3 and 4, or 4.
        town = Town(4, ((2, 3, 1, 7), (1, 2, 1, 4), (0, 1, 1, 6)))
        trips = ((0, 3, 4), (0, 0, 3), (2, 2, 1))
        wanted = [(1, "worn", 0, 4), (1, "worn", 1, 1), (1, "worn", 1, 3), (1, "worn", 1, 4), (1, "worn", 2, 3),
                  (1, "worn", 2, 4), (1, "lost", 0)]
        self.assertEqual(list(events(Traffic(town, trips), 100)), wanted)

    def test_loads_that_are_not_of_the_round(self):
        town = Town(2, ((0, 1, 1, 9),))
        self.assertEqual(list(events(Traffic(town, ((0, 1, 4),)), 9)), [(2, "worn", 0, 4), (2, "lost", 0)])

    def test_a_load_that_stands_twice_in_the_round(self):
        town = Town(2, ((0, 1, 1, 3),))
        wanted = [(2, "worn", 0, 2), (2, "lost", 0), (2, "lost", 1)]
        self.assertEqual(list(events(Traffic(town, ((0, 0, 1), (0, 1, 2))), 9)), [(2, "worn", 0, 2), (2, "lost", 1)])
        self.assertEqual(list(events(Traffic(town, ((0, 1, 2), (0, 1, 2))), 9)),
                         [(1, "worn", 0, 2), (1, "lost", 0), (1, "lost", 1)])
        self.assertEqual(list(events(Traffic(town, ((1, 0, 2), (1, 1, 2), (0, 1, 2))), 9))[:2],
                         [(1, "worn", 0, 2), (1, "lost", 0)])
        self.assertEqual(list(events(Traffic(Town(2, ((0, 1, 1, 4),)), ((0, 1, 2), (1, 0, 2))), 9)), wanted)

    def test_wear_counts_before_the_changes(self):
        # The mending makes up for the wear of trip 3 at once: worn, and still the same route.
        traffic = made_traffic(TOWN, TRIPS, [("mend", 3, 0, 4)])
        found = list(events(traffic, 8))
        wanted = [(3, "worn", 0, 1), (3, "mend", 0, 4), (7, "worn", 0, 1), (7, "detour", 0, 2, 5)]
        self.assertEqual(found, wanted)

    def test_a_closed_bridge_is_not_worn(self):
        traffic = made_traffic(TOWN, TRIPS, [("close", 2, 0), ("close", 2, 0), ("close", 2, 2)])
        wanted = [(2, "close", 0), (2, "close", 0), (2, "close", 2), (2, "lost", 0)]
        self.assertEqual(list(events(traffic, 100)), wanted)

    def test_changes_that_undo_each_other(self):
        traffic = made_traffic(TOWN, TRIPS, [("close", 2, 0), ("mend", 2, 0, 1)])
        wanted = [(2, "close", 0), (2, "mend", 0, 1), (3, "worn", 0, 1), (3, "detour", 0, 2, 5)]
        self.assertEqual(list(events(traffic, 11)), wanted)

    def test_changes_at_position_0(self):
        # The routes of the first phase are not compared with any others.
        traffic = made_traffic(TOWN, TRIPS, [("close", 0, 0), ("close", 0, 2), ("mend", 0, 2, 1)])
        wanted = [(0, "close", 0), (0, "close", 2), (0, "mend", 2, 1), (1, "worn", 2, 1), (1, "lost", 0)]
        self.assertEqual(list(events(traffic, 5)), wanted)
        self.assertEqual(list(events(traffic, 0)), wanted[:3])

    def test_a_detour_of_the_same_length(self):
        town = Town(2, ((0, 1, 4, 1), (0, 1, 4, 1)))
        wanted = [(1, "worn", 0, 1), (1, "detour", 0, 4, 4), (2, "worn", 1, 1), (2, "lost", 0)]
        self.assertEqual(list(events(Traffic(town, ((0, 1, 1),)), 5)), wanted)

    def test_a_shorter_route(self):
        traffic = made_traffic(TOWN, TRIPS, [("close", 0, 0), ("mend", 4, 0, 1)])
        self.assertEqual(list(events(traffic, 4)), [(0, "close", 0), (4, "mend", 0, 1), (4, "detour", 0, 5, 2)])

    def test_nothing_happens(self):
        for town, trips in ((Town(1, ()), ((0, 0, 9),)), (Town(2, ()), ((0, 1, 1),)), (TOWN, ((1, 1, 1),) * 8)):
            self.assertEqual(list(events(Traffic(town, trips), LIMIT)), [])


class NumberTest(unittest.TestCase):
    def setUp(self):
        self.changes = [("mend", 0, 1, 2), ("mend", 5, 0, 1), ("close", 5, 1), ("mend", 20, 2, 3), ("close", 30, 2)]
        self.traffic = made_traffic(TOWN, ((0, 2, 1), (2, 1, 2)), self.changes)

    def test_a_smaller_number_yields_the_beginning(self):
        found = list(events(self.traffic, 60))
        self.assertGreater(len(found), 10)
        for last in range(61):
            self.assertEqual(list(events(self.traffic, last)), [event for event in found if event[0] <= last])
        self.assertEqual(list(events(self.traffic, LIMIT)), found)

    def test_no_trips(self):
        self.assertEqual(list(events(self.traffic, 0)), [(0, "mend", 1, 2)])
        self.assertEqual(list(events(Traffic(TOWN, TRIPS), 0)), [])

    def test_far(self):
        town = Town(2, ((0, 1, 1, LIMIT), (0, 1, 2, 1)))
        traffic = Traffic(town, ((0, 1, 1),))
        self.assertEqual(list(events(traffic, LIMIT - 1)), [])
        self.assertEqual(list(events(traffic, LIMIT)), [(LIMIT, "worn", 0, 1), (LIMIT, "detour", 0, 1, 2)])
        traffic.go_to(LIMIT)
        traffic.close(1)
        wanted = [(LIMIT, "worn", 0, 1), (LIMIT, "close", 1), (LIMIT, "lost", 0)]
        self.assertEqual(list(events(traffic, LIMIT)), wanted)
        self.assertEqual(list(events(traffic, LIMIT - 1)), [])

    def test_wrong_numbers(self):
        before = list(events(self.traffic, 60))
        for last in (-1, -LIMIT, LIMIT + 1):
            found = events(self.traffic, last)
            self.assertTrue(inspect.isgenerator(found))
            with self.assertRaises(InvalidCount):
                next(found)
            with self.assertRaises(InvalidCount):
                list(events(self.traffic, last))
        self.assertEqual(list(events(self.traffic, 60)), before)

    def test_traffic_stays_as_it_is(self):
        self.traffic.go_to(7)
        list(events(self.traffic, 3)).clear()
        self.assertEqual((self.traffic.position, self.traffic.changes), (7, self.changes))

    def test_the_position_does_not_matter(self):
        found = list(events(self.traffic, 60))
        for position in (0, 5, 20, 25, LIMIT):
            self.traffic.go_to(position)
            self.assertEqual(list(events(self.traffic, 60)), found)


class SimulationTest(unittest.TestCase):
    def check(self, chance, town, trips, changes):
        wanted, count = simulated_events(town, trips, changes)
        traffic = made_traffic(town, trips, changes)
        with self.subTest(town=town.text, trips=trips, changes=changes):
            self.assertEqual(list(events(traffic, count)), wanted)
            self.assertEqual(list(events(traffic, LIMIT)), wanted)
            last = chance.randint(0, count)
            self.assertEqual(list(events(traffic, last)), [event for event in wanted if event[0] <= last])
        return {event[1] for event in wanted}

    def test_without_changes(self):
        chance = random.Random(61)
        for _ in range(100):
            town = random_town(chance)
            self.check(chance, town, random_trips(chance, town), [])

    def test_with_changes(self):
        chance = random.Random(62)
        words = set()
        for _ in range(250):
            town = random_town(chance, life=20)
            changes = random_changes(chance, town, most=6, last=chance.choice([0, 3, 40]), amount=12)
            words |= self.check(chance, town, random_trips(chance, town), changes)
        self.assertEqual(words, {"worn", "close", "mend", "lost", "found", "detour"})


if __name__ == "__main__":
    unittest.main()
