"""The examples of the interface, as they stand there."""

import unittest

from examples import run_example

TOWNS = (
    """
>>> from wornbridges.towns import Town
>>> town = Town(3, ((0, 1, 2, 10), (1, 2, 3, 4), (0, 2, 9, 7)))
>>> [town.place_count, town.lives]
[3, (10, 4, 7)]
""",
    """
>>> from wornbridges.towns import Town
>>> Town(2, ((0, 1, 100, 5),))
raises InvalidTown(part='bridges', index=0)
""",
    r"""
>>> from wornbridges.towns import Town
>>> town = Town(3, ((0, 1, 2, 10), (1, 2, 3, 4), (0, 2, 9, 7)))
>>> town.text
'places 3\nbridge 0 1 2 10\nbridge 1 2 3 4\nbridge 0 2 9 7'
""",
    """
>>> from wornbridges.towns import Town
>>> [Town.is_bridge(2, (0, 1, 5, 0)), Town.is_bridge(2, (0, 2, 5, 0))]
[True, False]
""",
    r"""
>>> from wornbridges.towns import Town
>>> Town.parse("places 2\nbridge 0 1 7 100").bridges
((0, 1, 7, 100),)
""",
    r"""
>>> from wornbridges.towns import Town
>>> Town.parse("places 2\nbridge 0 1 7")
raises InvalidText(row=1)
""",
)

ROUTES = (
    """
>>> from wornbridges.towns import Town
>>> from wornbridges.routes import shortest_route
>>> town = Town(3, ((0, 1, 2, 10), (1, 2, 3, 4), (0, 2, 9, 7)))
>>> [shortest_route(town, (10, 4, 7), 0, 2, 1), shortest_route(town, (10, 4, 7), 0, 2, 5)]
[(0, 1), (2,)]
""",
    """
>>> from wornbridges.towns import Town
>>> from wornbridges.routes import route_length
>>> town = Town(3, ((0, 1, 2, 10), (1, 2, 3, 4), (0, 2, 9, 7)))
>>> route_length(town, (0, 1))
5
""",
    """
>>> from wornbridges.towns import Town
>>> from wornbridges.routes import reached_places
>>> town = Town(3, ((0, 1, 2, 10), (1, 2, 3, 4), (0, 2, 9, 7)))
>>> reached_places(town, (10, 0, 0), 0, 1)
[0, 1]
""",
)

TRAFFIC = (
    """
>>> from wornbridges.towns import Town
>>> from wornbridges.traffic import Traffic
>>> town = Town(3, ((0, 1, 2, 10), (1, 2, 3, 4), (0, 2, 9, 7)))
>>> Traffic(town, ((0, 2, 1), (0, 3, 1)))
raises InvalidTrips(index=1)
""",
    """
>>> from wornbridges.towns import Town
>>> from wornbridges.traffic import Traffic
>>> town = Town(3, ((0, 1, 2, 10), (1, 2, 3, 4), (0, 2, 9, 7)))
>>> traffic = Traffic(town, ((0, 2, 1), (2, 1, 2)))
>>> [traffic.trips, traffic.position, traffic.lives, traffic.changes]
[((0, 2, 1), (2, 1, 2)), 0, (10, 4, 7), []]
""",
    """
>>> from wornbridges.towns import Town
>>> from wornbridges.traffic import Traffic
>>> town = Town(3, ((0, 1, 2, 10), (1, 2, 3, 4), (0, 2, 9, 7)))
>>> traffic = Traffic(town, ((0, 2, 1), (2, 1, 2)))
>>> traffic.go_to(4)
>>> traffic.lives
(6, 0, 5)
""",
    """
>>> from wornbridges.towns import Town
>>> from wornbridges.traffic import Traffic
>>> town = Town(3, ((0, 1, 2, 10), (1, 2, 3, 4), (0, 2, 9, 7)))
>>> traffic = Traffic(town, ((0, 2, 1), (2, 1, 2)))
>>> traffic.close(1)
>>> [traffic.changes, traffic.route_of(1)]
[[('close', 0, 1)], (2,)]
""",
    """
>>> from wornbridges.towns import Town
>>> from wornbridges.traffic import Traffic
>>> town = Town(3, ((0, 1, 2, 10), (1, 2, 3, 4), (0, 2, 9, 7)))
>>> traffic = Traffic(town, ((0, 2, 1), (2, 1, 2)))
>>> traffic.go_to(3)
>>> traffic.mend(1, 10)
>>> [traffic.lives, traffic.route_of(4)]
[(8, 10, 7), (1,)]
""",
    """
>>> from wornbridges.towns import Town
>>> from wornbridges.traffic import Traffic
>>> town = Town(3, ((0, 1, 2, 10), (1, 2, 3, 4), (0, 2, 9, 7)))
>>> traffic = Traffic(town, ((0, 2, 1), (2, 1, 2)))
>>> [traffic.route_of(4), traffic.route_of(10 ** 18)]
[(2, 0), None]
""",
    """
>>> from wornbridges.towns import Town
>>> from wornbridges.traffic import Traffic
>>> town = Town(3, ((0, 1, 2, 10), (1, 2, 3, 4), (0, 2, 9, 7)))
>>> traffic = Traffic(town, ((0, 2, 1), (2, 1, 2)))
>>> traffic.lives_after(7)
(4, 0, 1)
""",
    """
>>> from wornbridges.towns import Town
>>> from wornbridges.traffic import Traffic
>>> town = Town(3, ((0, 1, 2, 10), (1, 2, 3, 4), (0, 2, 9, 7)))
>>> traffic = Traffic(town, ((0, 2, 1), (2, 1, 2)))
>>> list(traffic.routes(1, 4))
[(0, 1), (1,), (0, 1), (2, 0)]
""",
    """
>>> from wornbridges.towns import Town
>>> from wornbridges.traffic import Traffic
>>> town = Town(3, ((0, 1, 2, 10), (1, 2, 3, 4), (0, 2, 9, 7)))
>>> traffic = Traffic(town, ((0, 2, 1), (2, 1, 2)))
>>> list(traffic.phases())
[(1, 2, ((0, 1), (1,))), (3, 3, ((0, 1), (2, 0))), (4, 7, ((2,), (2, 0))), (8, 9, ((2,), None)), (10, None, (None, None))]
""",
)

COUNTS = (
    """
>>> from wornbridges.towns import Town
>>> from wornbridges.traffic import Traffic
>>> from wornbridges.counts import crossings
>>> town = Town(3, ((0, 1, 2, 10), (1, 2, 3, 4), (0, 2, 9, 7)))
>>> traffic = Traffic(town, ((0, 2, 1), (2, 1, 2)))
>>> crossings(traffic, 0, 100)
4
""",
    """
>>> from wornbridges.towns import Town
>>> from wornbridges.traffic import Traffic
>>> from wornbridges.counts import nth_crossing
>>> town = Town(3, ((0, 1, 2, 10), (1, 2, 3, 4), (0, 2, 9, 7)))
>>> traffic = Traffic(town, ((0, 2, 1), (2, 1, 2)))
>>> [nth_crossing(traffic, 0, 3), nth_crossing(traffic, 0, 5)]
[4, None]
""",
    """
>>> from wornbridges.towns import Town
>>> from wornbridges.traffic import Traffic
>>> from wornbridges.counts import failures, nth_failure
>>> town = Town(3, ((0, 1, 2, 10), (1, 2, 3, 4), (0, 2, 9, 7)))
>>> traffic = Traffic(town, ((0, 2, 1), (2, 1, 2)))
>>> [failures(traffic, 100), nth_failure(traffic, 2)]
[92, 10]
""",
    """
>>> from wornbridges.towns import Town
>>> from wornbridges.traffic import Traffic
>>> from wornbridges.counts import distance
>>> town = Town(3, ((0, 1, 2, 10), (1, 2, 3, 4), (0, 2, 9, 7)))
>>> traffic = Traffic(town, ((0, 2, 1), (2, 1, 2)))
>>> distance(traffic, 4)
24
""",
    """
>>> from wornbridges.towns import Town
>>> from wornbridges.traffic import Traffic
>>> from wornbridges.counts import never_crossed
>>> town = Town(3, ((0, 1, 2, 10), (1, 2, 3, 4), (0, 2, 9, 7)))
>>> traffic = Traffic(town, ((0, 2, 1), (2, 1, 2)))
>>> never_crossed(traffic)
[]
""",
    """
>>> from wornbridges.towns import Town
>>> from wornbridges.traffic import Traffic
>>> from wornbridges.counts import bears_until
>>> town = Town(3, ((0, 1, 2, 10), (1, 2, 3, 4), (0, 2, 9, 7)))
>>> traffic = Traffic(town, ((0, 2, 1), (2, 1, 2)))
>>> bears_until(traffic, 1, 2)
2
""",
    """
>>> from wornbridges.towns import Town
>>> from wornbridges.traffic import Traffic
>>> from wornbridges.counts import connected_until
>>> town = Town(3, ((0, 1, 2, 10), (1, 2, 3, 4), (0, 2, 9, 7)))
>>> traffic = Traffic(town, ((0, 2, 1), (2, 1, 2)))
>>> connected_until(traffic, 0, 2, 1)
9
""",
    """
>>> from wornbridges.towns import Town
>>> from wornbridges.traffic import Traffic
>>> from wornbridges.counts import first_failure
>>> town = Town(3, ((0, 1, 2, 10), (1, 2, 3, 4), (0, 2, 9, 7)))
>>> traffic = Traffic(town, ((0, 2, 1), (2, 1, 2)))
>>> [first_failure(traffic, 0), first_failure(traffic, 1)]
[11, 8]
""",
)

TRIALS = (
    """
>>> from wornbridges.towns import Town
>>> from wornbridges.traffic import Traffic
>>> from wornbridges.trials import effect_of_closing
>>> town = Town(3, ((0, 1, 2, 10), (1, 2, 3, 4), (0, 2, 9, 7)))
>>> traffic = Traffic(town, ((0, 2, 1), (2, 1, 2)))
>>> effect_of_closing(traffic, 1)
1
""",
    """
>>> from wornbridges.towns import Town
>>> from wornbridges.traffic import Traffic
>>> from wornbridges.trials import effect_of_mending
>>> town = Town(3, ((0, 1, 2, 10), (1, 2, 3, 4), (0, 2, 9, 7)))
>>> traffic = Traffic(town, ((0, 2, 1), (2, 1, 2)))
>>> effect_of_mending(traffic, 1, 10)
4
""",
    """
>>> from wornbridges.towns import Town
>>> from wornbridges.traffic import Traffic
>>> from wornbridges.trials import first_difference
>>> town = Town(3, ((0, 1, 2, 10), (1, 2, 3, 4), (0, 2, 9, 7)))
>>> traffic = Traffic(town, ((0, 2, 1), (2, 1, 2)))
>>> less = Town(3, ((0, 1, 2, 10), (1, 2, 3, 4), (0, 2, 9, 6)))
>>> first_difference(traffic, Traffic(less, traffic.trips))
9
""",
)

CUTS = (
    """
>>> from wornbridges.towns import Town
>>> from wornbridges.cuts import trip_bound
>>> town = Town(3, ((0, 1, 2, 10), (1, 2, 3, 4), (0, 2, 9, 7)))
>>> trip_bound(town, (0, 2, 1))
(11, [0, 1])
""",
    """
>>> from wornbridges.towns import Town
>>> from wornbridges.cuts import best_routes
>>> town = Town(3, ((0, 1, 2, 10), (1, 2, 3, 4), (0, 2, 9, 7)))
>>> sum([times for route, times in best_routes(town, (0, 2, 1))])
11
""",
    """
>>> from wornbridges.towns import Town
>>> from wornbridges.traffic import Traffic
>>> from wornbridges.cuts import failing_cut
>>> town = Town(3, ((0, 1, 2, 10), (1, 2, 3, 4), (0, 2, 9, 7)))
>>> traffic = Traffic(town, ((0, 2, 1), (2, 1, 2)))
>>> failing_cut(traffic, 1)
[2]
""",
    """
>>> from wornbridges.towns import Town
>>> from wornbridges.cuts import is_cut
>>> town = Town(3, ((0, 1, 2, 10), (1, 2, 3, 4), (0, 2, 9, 7)))
>>> [is_cut(town, (4, 0, 1), (2, 1, 2), [2]), is_cut(town, (4, 0, 2), (2, 1, 2), [2])]
[True, False]
""",
)

MENDS = (
    """
>>> from wornbridges.towns import Town
>>> from wornbridges.mends import fewest_mends
>>> town = Town(3, ((0, 1, 2, 10), (1, 2, 3, 4), (0, 2, 9, 7)))
>>> [fewest_mends(town, ((0, 2, 1), (2, 1, 2)), 7), fewest_mends(town, ((0, 2, 1), (2, 1, 2)), 20)]
[[], [1]]
""",
)

OBSERVERS = (
    """
>>> from wornbridges.towns import Town
>>> from wornbridges.observers import Observer
>>> town = Town(3, ((0, 1, 2, 10), (1, 2, 3, 4), (0, 2, 9, 7)))
>>> more = Town(3, ((0, 1, 2, 10), (1, 2, 3, 6), (0, 2, 9, 7)))
>>> observer = Observer([town, more], ((0, 2, 1), (2, 1, 2)))
>>> [observer.see_trip(1, 4, True), observer.candidates]
[1, [1]]
""",
    """
>>> from wornbridges.towns import Town
>>> from wornbridges.observers import Observer
>>> town = Town(3, ((0, 1, 2, 10), (1, 2, 3, 4), (0, 2, 9, 7)))
>>> more = Town(3, ((0, 1, 2, 10), (1, 2, 3, 6), (0, 2, 9, 7)))
>>> observer = Observer([town, more], ((0, 2, 1), (2, 1, 2)))
>>> [observer.see_total(1, 4, 3), observer.candidates, observer.records]
[1, [0], [('total', 1, 4, 3)]]
""",
    """
>>> from wornbridges.towns import Town
>>> from wornbridges.observers import Observer
>>> town = Town(3, ((0, 1, 2, 10), (1, 2, 3, 4), (0, 2, 9, 7)))
>>> more = Town(3, ((0, 1, 2, 10), (1, 2, 3, 6), (0, 2, 9, 7)))
>>> observer = Observer([town, more], ((0, 2, 1), (2, 1, 2)))
>>> observer.next_sight(1)
4
""",
    """
>>> from wornbridges.towns import Town
>>> from wornbridges.observers import Observer
>>> town = Town(3, ((0, 1, 2, 10), (1, 2, 3, 4), (0, 2, 9, 7)))
>>> more = Town(3, ((0, 1, 2, 10), (1, 2, 3, 6), (0, 2, 9, 7)))
>>> observer = Observer([town, more], ((0, 2, 1), (2, 1, 2)))
>>> observer.best_bridge()
0
""",
)

WORKS = (
    """
>>> from wornbridges.works import Upkeep
>>> work = Upkeep(0, 1, 5, every=10, times=3)
>>> [work.line, work.last_planned, list(work.planned())]
['at 0 mend 1 by 5 every 10 times 3', 20, [('mend', 0, 1, 5), ('mend', 10, 1, 5), ('mend', 20, 1, 5)]]
""",
    """
>>> from wornbridges.works import Closing
>>> Closing(0, 24)
raises InvalidWork(index=0)
""",
)

SCHEDULES = (
    """
>>> from wornbridges.schedules import Schedule
>>> from wornbridges.works import Closing, Mending
>>> schedule = Schedule(Closing(5, 1), Mending(2, 0, 1)).joined(Schedule(Closing(2, 2)))
>>> [schedule.change_count, list(schedule.planned())]
[3, [('mend', 2, 0, 1), ('close', 2, 2), ('close', 5, 1)]]
""",
    r"""
>>> from wornbridges.schedules import Schedule
>>> Schedule.parse("at 2 mend 0 by 1\nat 5 close 1").text
'at 2 mend 0 by 1\nat 5 close 1'
""",
    r"""
>>> from wornbridges.schedules import Schedule
>>> Schedule.parse("at 2 close 0\nat 2 open 0")
raises InvalidText(row=1)
""",
    """
>>> from wornbridges.towns import Town
>>> from wornbridges.schedules import Schedule, scheduled_traffic
>>> from wornbridges.works import Mending
>>> town = Town(3, ((0, 1, 1, 3), (1, 2, 1, 9), (0, 2, 5, 9)))
>>> traffic = scheduled_traffic(town, ((0, 2, 1),), Schedule(Mending(2, 0, 1)))
>>> [traffic.position, traffic.changes, list(traffic.phases())[0]]
[0, [('mend', 2, 0, 1)], (1, 2, ((0, 1),))]
""",
    """
>>> from wornbridges.towns import Town
>>> from wornbridges.schedules import Schedule, first_effects, needed_changes
>>> from wornbridges.works import Mending
>>> town = Town(3, ((0, 1, 1, 3), (1, 2, 1, 9), (0, 2, 5, 9)))
>>> schedule = Schedule(Mending(2, 0, 1), Mending(0, 1, 5))
>>> [first_effects(town, ((0, 2, 1),), schedule), needed_changes(town, ((0, 2, 1),), schedule)]
[[None, 4], [('mend', 2, 0, 1)]]
""",
)

EVENTS = (
    """
>>> from wornbridges.towns import Town
>>> from wornbridges.traffic import Traffic
>>> from wornbridges.events import events
>>> town = Town(3, ((0, 1, 1, 3), (1, 2, 1, 9), (0, 2, 5, 9)))
>>> traffic = Traffic(town, ((0, 2, 1),))
>>> list(events(traffic, 20))
[(3, 'worn', 0, 1), (3, 'detour', 0, 2, 5), (12, 'worn', 2, 1), (12, 'lost', 0)]
""",
)

CONSOLE = (
    """
>>> from wornbridges.towns import Town
>>> from wornbridges.traffic import Traffic
>>> from wornbridges.console import Console
>>> town = Town(3, ((0, 1, 1, 3), (1, 2, 1, 9), (0, 2, 5, 9)))
>>> console = Console(Traffic(town, ((0, 2, 1),)))
>>> list(console.answers("go 3", "lives", "mend 0 by 2", "route 4"))
['position 3', 'lives 0 6 9', 'mended 0 by 2', 'route 0 1']
""",
    """
>>> from wornbridges.towns import Town
>>> from wornbridges.traffic import Traffic
>>> from wornbridges.console import Console
>>> town = Town(3, ((0, 1, 1, 3), (1, 2, 1, 9), (0, 2, 5, 9)))
>>> console = Console(Traffic(town, ((0, 2, 1),)))
>>> list(console.answers("begin", "close 2", "rollback", "commit", "route 0", "jump 1"))
['open 1', 'closed 2', 'open 0', 'error transaction', 'error number', 'malformed']
""",
)

PACKING = (
    """
>>> from wornbridges.towns import Town
>>> from wornbridges.packing import encode_town, unpack_bytes
>>> unpack_bytes(encode_town(Town(2, ((0, 1, 5, 300),))))
[84, 2, 1, 0, 1, 5, 172, 2, 244, 173]
""",
    """
>>> from wornbridges.packing import decode_town, pack_bytes
>>> decode_town(pack_bytes([84, 2, 1, 1, 1]))
raises InvalidData(offset=4)
""",
)


class ExampleTest(unittest.TestCase):
    def check(self, examples):
        for example in examples:
            with self.subTest(example=example):
                given, wanted = run_example(example)
                self.assertEqual(given, wanted)

    def test_towns(self):
        self.check(TOWNS)

    def test_routes(self):
        self.check(ROUTES)

    def test_traffic(self):
        self.check(TRAFFIC)

    def test_counts(self):
        self.check(COUNTS)

    def test_trials(self):
        self.check(TRIALS)

    def test_cuts(self):
        self.check(CUTS)

    def test_mends(self):
        self.check(MENDS)

    def test_observers(self):
        self.check(OBSERVERS)

    def test_works(self):
        self.check(WORKS)

    def test_schedules(self):
        self.check(SCHEDULES)

    def test_events(self):
        self.check(EVENTS)

    def test_console(self):
        self.check(CONSOLE)

    def test_packing(self):
        self.check(PACKING)


if __name__ == "__main__":
    unittest.main()
