"""Point 1 over the whole program: calls do not hinder each other, and what is returned is the caller's."""

import copy
import unittest

from wornbridges.console import Console
from wornbridges.counts import (
    bears_until, connected_until, crossings, distance, failures, first_failure, never_crossed, nth_crossing,
    nth_failure,
)
from wornbridges.cuts import best_routes, failing_cut, is_cut, trip_bound
from wornbridges.errors import BridgeError
from wornbridges.events import events
from wornbridges.mends import fewest_mends
from wornbridges.observers import Observer
from wornbridges.packing import decode_town, encode_town, pack_bytes, unpack_bytes
from wornbridges.routes import reached_places, route_length, shortest_route
from wornbridges.schedules import Schedule, first_effects, needed_changes, scheduled_traffic
from wornbridges.towns import Town
from wornbridges.traffic import Traffic
from wornbridges.trials import Closed, Mended, effect_of_closing, effect_of_mending, first_difference
from wornbridges.works import Closing, Mending, Upkeep

LIMIT = 10 ** 18
TEXT = "places 3\nbridge 0 1 2 10\nbridge 1 2 3 4\nbridge 0 2 9 7"
TRIPS = ((0, 2, 1), (2, 1, 2))
PLAN = "at 2 mend 1 by 3\nat 0 mend 0 by 5 every 4 times 3\nat 9 close 2"


class World:
    """Objects of all classes, on which all functions and methods are called."""

    def __init__(self):
        self.town = Town.parse(TEXT)
        self.more = Town(3, ((0, 1, 2, 10), (1, 2, 3, 6), (0, 2, 9, 7)))
        self.schedule = Schedule.parse(PLAN)
        self.works = (Closing(5, 1), Mending(5, 0, 3), Upkeep(1, 2, 3, every=4, times=5))
        self.traffic = scheduled_traffic(self.town, TRIPS, self.schedule)
        self.traffic.go_to(6)
        self.plain = Traffic(self.town, TRIPS)
        self.towns = [self.town, self.more, self.town]
        self.observer = Observer(self.towns, TRIPS)
        self.observer.see_trip(0, 1, True)
        self.console = Console(self.traffic)
        self.console.run("begin")

    def picture(self):
        """Return the results of many calls that change nothing, those of a call in a list of its own."""
        return [*self.town_calls(), *self.traffic_calls(), *self.count_calls(), *self.plan_calls(), *self.other_calls()]

    def town_calls(self):
        town, lives = self.town, self.town.lives
        return [
            [town.place_count], [town.bridges], [lives], [town.text], [Town.is_bridge(2, (0, 1, 5, 0))],
            [shortest_route(town, lives, 0, 2, load) for load in range(1, 10)], [route_length(town, (0, 1, 1))],
            reached_places(town, lives, 1, 5), [trip_bound(town, trip) for trip in TRIPS],
            [best_routes(town, trip) for trip in TRIPS], [is_cut(town, (4, 0, 1), (2, 1, 2), [2])],
            fewest_mends(town, TRIPS, 40), [fewest_mends(town, TRIPS, 3)], unpack_bytes(encode_town(town)),
            [encode_town(town)], [decode_town(encode_town(town)).text], [pack_bytes([1, 2])],
        ]

    def traffic_calls(self):
        found = []
        for traffic in (self.traffic, self.plain, self.console.led):
            found += [
                [traffic.position], [traffic.lives], traffic.changes, [traffic.trips], [traffic.town.text],
                [traffic.route_of(number) for number in (1, 7, 30, LIMIT)],
                [traffic.lives_after(count) for count in (0, 3, 7, LIMIT)],
                list(traffic.routes(1, 30)), list(traffic.phases()), list(events(traffic, 50)),
            ]
        return found

    def count_calls(self):
        found = []
        for traffic in (self.traffic, self.plain):
            found += [
                [crossings(traffic, bridge, LIMIT) for bridge in range(3)],
                [nth_crossing(traffic, bridge, 3) for bridge in range(3)],
                [failures(traffic, LIMIT), nth_failure(traffic, 2), distance(traffic, 20)], never_crossed(traffic),
                [bears_until(traffic, bridge, 2) for bridge in range(3)], [connected_until(traffic, 0, 2, 3)],
                [first_failure(traffic, kind) for kind in range(2)], [failing_cut(traffic, kind) for kind in range(2)],
                [effect_of_closing(traffic, bridge) for bridge in range(3)],
                [effect_of_mending(traffic, bridge, 4) for bridge in range(3)],
            ]
        return [*found, [first_difference(self.traffic, self.plain)]]

    def plan_calls(self):
        schedule = self.schedule
        works = [[work.line, work.position_planned, work.last_planned, work.bridge_planned] for work in self.works]
        return [
            *works, *[list(work.planned()) for work in self.works],
            [[work.line for work in schedule.works], schedule.change_count, schedule.text], list(schedule.planned()),
            [schedule.joined(Schedule(*self.works), schedule).text], [Schedule.parse(schedule.text).text],
            first_effects(self.town, TRIPS, schedule), needed_changes(self.town, TRIPS, schedule),
            scheduled_traffic(self.town, TRIPS, schedule).changes,
        ]

    def other_calls(self):
        observer, console = self.observer, self.console
        return [
            observer.candidates, observer.records, [observer.next_sight(bridge) for bridge in range(3)],
            [observer.best_bridge()], [console.depth],
            list(console.answers("lives", "route 9", "crossings 0 20", "failures 50", "x", "begin", "rollback")),
        ]

    def wrong_calls(self):
        """Return functions without parameters that raise an error each."""
        town, traffic, observer, schedule = self.town, self.traffic, self.observer, self.schedule
        wrong = ((0, 3, 1),)
        return [
            lambda: Town(0, ()), lambda: Town(2, ((0, 0, 1, 1),)), lambda: Town.parse(TEXT + "\n"),
            lambda: shortest_route(town, town.lives, 0, 3, 1), lambda: route_length(town, (3,)),
            lambda: reached_places(town, town.lives, 0, 10), lambda: Traffic(town, wrong),
            lambda: traffic.go_to(-1), lambda: setattr(traffic, "position", LIMIT + 1), lambda: traffic.close(3),
            lambda: traffic.mend(0, 0), lambda: traffic.mend(3, 1), lambda: traffic.route_of(0),
            lambda: traffic.lives_after(-1), lambda: list(traffic.routes(2, 1)), lambda: crossings(traffic, 3, 1),
            lambda: nth_crossing(traffic, 0, 0), lambda: failures(traffic, -1), lambda: nth_failure(traffic, 0),
            lambda: distance(traffic, -1), lambda: bears_until(traffic, 0, 10), lambda: first_failure(traffic, 2),
            lambda: connected_until(traffic, 0, 3, 1), lambda: Closed(traffic, 3).__enter__(),
            lambda: Mended(traffic, 0, 0).__enter__(), lambda: effect_of_closing(traffic, -1),
            lambda: effect_of_mending(traffic, 0, LIMIT + 1), lambda: trip_bound(town, wrong[0]),
            lambda: best_routes(town, wrong[0]), lambda: failing_cut(traffic, -1),
            lambda: is_cut(town, town.lives, wrong[0], []), lambda: fewest_mends(town, TRIPS, -1),
            lambda: Observer([], TRIPS), lambda: observer.see_trip(0, 0, True), lambda: observer.see_trip(0, 1, False),
            lambda: observer.see_total(0, 5, -1), lambda: observer.see_total(3, 5, 1), lambda: observer.next_sight(-1),
            lambda: Closing(0, 24), lambda: Mending(0, 0, 0), lambda: Upkeep(0, 0, 1, every=0, times=1),
            lambda: Schedule(*[self.works[2]] * 13), lambda: schedule.joined(*[schedule] * 12),
            lambda: Schedule.parse("x"), lambda: Schedule.parse("at 0 close 24"),
            lambda: scheduled_traffic(town, wrong, schedule), lambda: first_effects(town, wrong, schedule),
            lambda: needed_changes(town, TRIPS, Schedule(Closing(0, 3))), lambda: list(events(traffic, -1)),
            lambda: pack_bytes([256]), lambda: decode_town(b"T"),
        ]

    def other_work(self):
        """Make calls that change only other objects, or what is taken back."""
        with Closed(self.traffic, 0), Mended(self.traffic, 1, 50):
            self.traffic.go_to(3)
            self.count_calls()
        traffic = scheduled_traffic(self.town, TRIPS, self.schedule)
        traffic.close(0)
        console = Console(self.traffic)
        list(console.answers("go 2", "close 1", "begin", "mend 0 by 9", "commit", "go 40"))
        other = Observer(self.towns, TRIPS)
        other.see_total(1, 4, 4)
        list(self.console.answers("begin", "go 1", "close 0", "begin", "mend 2 by 5", "commit", "rollback"))
        list(self.traffic.routes(5, 600))
        self.traffic.route_of(LIMIT)


def spoiled(found):
    """Modify all lists within lists that were returned."""
    for worth in found:
        if isinstance(worth, list):
            spoiled(worth)
    found.reverse()
    found.append("spoiled")


class WholeTest(unittest.TestCase):
    def setUp(self):
        self.world = World()
        self.before = copy.deepcopy(self.world.picture())

    def check(self):
        found = self.world.picture()
        self.assertEqual(len(found), len(self.before))
        for at, (one, other) in enumerate(zip(self.before, found)):
            self.assertEqual(one, other, f"call {at}")

    def test_the_same_calls_again(self):
        self.check()
        self.check()

    def test_the_same_calls_in_another_world(self):
        self.world = World()
        self.check()

    def test_after_other_calls(self):
        for _ in range(2):
            self.world.other_work()
            self.check()

    def test_after_errors(self):
        for at, call in enumerate(self.world.wrong_calls()):
            with self.subTest(at=at):
                with self.assertRaises(BridgeError):
                    call()
                self.check()

    def test_after_lines_that_cannot_be_done(self):
        lines = ("go -1", f"go {LIMIT + 1}", "close 3", "mend 0 by 0", "mend 3 by 1", "route 0", "failures", "", "x ")
        for line in lines:
            self.assertIn(self.world.console.run(line).split(" ")[0], ("error", "malformed"))
            self.check()

    def test_after_returned_lists_were_modified(self):
        for _ in range(2):
            spoiled(self.world.picture())
            self.check()

    def test_after_arguments_were_modified(self):
        numbers, places = [84, 1, 0], [0, 1]
        data = pack_bytes(numbers)
        is_cut(self.world.town, self.world.town.lives, (0, 2, 1), places)
        self.assertEqual((numbers, places), ([84, 1, 0], [0, 1]))
        numbers.append(256)
        self.assertEqual(unpack_bytes(data), [84, 1, 0])
        self.world.towns.reverse()
        self.world.towns.pop()
        self.check()

    def test_results_are_not_changed_by_later_calls(self):
        found = self.world.picture()
        self.world.other_work()
        self.world.traffic.close(0)
        self.world.observer.see_trip(1, 4, True)
        self.world.console.run("close 1")
        self.assertEqual(found, self.before)

    def test_another_world_after_changes(self):
        # Nothing but the objects themselves keeps anything.
        self.world.traffic.close(0)
        self.world.plain.mend(1, 5)
        self.world.observer.see_trip(1, 4, True)
        self.world.console.run("go 0")
        self.world = World()
        self.check()


if __name__ == "__main__":
    unittest.main()
