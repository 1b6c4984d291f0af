"""The interface: names, arguments, and the files and classes that define them."""

import inspect
import unittest

from wornbridges import (
    console, counts, cuts, events, mends, observers, packing, routes, schedules, towns, traffic, trials, works,
)
from wornbridges.console import Console
from wornbridges.observers import Observer
from wornbridges.schedules import Schedule
from wornbridges.towns import Town
from wornbridges.traffic import Traffic
from wornbridges.trials import Closed, Mended
from wornbridges.works import Closing, Mending, Upkeep, Work

FUNCTIONS = (
    (routes, "shortest_route", ["town", "remaining", "one", "other", "load"]),
    (routes, "route_length", ["town", "route"]),
    (routes, "reached_places", ["town", "remaining", "place", "load"]),
    (counts, "crossings", ["traffic", "bridge", "count"]),
    (counts, "nth_crossing", ["traffic", "bridge", "number"]),
    (counts, "failures", ["traffic", "count"]),
    (counts, "nth_failure", ["traffic", "number"]),
    (counts, "distance", ["traffic", "count"]),
    (counts, "never_crossed", ["traffic"]),
    (counts, "bears_until", ["traffic", "bridge", "load"]),
    (counts, "connected_until", ["traffic", "one", "other", "load"]),
    (counts, "first_failure", ["traffic", "kind"]),
    (trials, "effect_of_closing", ["traffic", "bridge"]),
    (trials, "effect_of_mending", ["traffic", "bridge", "amount"]),
    (trials, "first_difference", ["one", "other"]),
    (cuts, "trip_bound", ["town", "trip"]),
    (cuts, "best_routes", ["town", "trip"]),
    (cuts, "failing_cut", ["traffic", "kind"]),
    (cuts, "is_cut", ["town", "remaining", "trip", "places"]),
    (mends, "fewest_mends", ["town", "trips", "count"]),
    (schedules, "scheduled_traffic", ["town", "trips", "schedule"]),
    (schedules, "first_effects", ["town", "trips", "schedule"]),
    (schedules, "needed_changes", ["town", "trips", "schedule"]),
    (events, "events", ["traffic", "last"]),
    (packing, "pack_bytes", ["numbers"]),
    (packing, "unpack_bytes", ["data"]),
    (packing, "encode_town", ["town"]),
    (packing, "decode_town", ["data"]),
)
OBSERVER_METHODS = (
    ("see_trip", ["self", "bridge", "number", "crosses"]),
    ("see_total", ["self", "bridge", "count", "total"]),
    ("next_sight", ["self", "bridge"]),
    ("best_bridge", ["self"]),
)
METHODS = (
    ("go_to", ["self", "count"]),
    ("close", ["self", "bridge"]),
    ("mend", ["self", "bridge", "amount"]),
    ("route_of", ["self", "number"]),
    ("lives_after", ["self", "count"]),
    ("routes", ["self", "first", "last"]),
    ("phases", ["self"]),
)


class InterfaceTest(unittest.TestCase):
    def test_functions(self):
        for module, name, arguments in FUNCTIONS:
            with self.subTest(name=name):
                function = getattr(module, name)
                self.assertEqual(function.__module__, module.__name__)
                self.assertEqual(list(inspect.signature(function).parameters), arguments)

    def test_town_is_defined_in_its_file(self):
        self.assertEqual(Town.__module__, towns.__name__)
        self.assertEqual(list(inspect.signature(Town).parameters), ["count", "bridges"])

    def test_town_values(self):
        self.assertEqual((Town.MAX_PLACES, Town.MAX_BRIDGES, Town.MAX_LIFE), (12, 24, 10 ** 18))

    def test_town_properties(self):
        for name in ("place_count", "bridges", "lives", "text"):
            with self.subTest(name=name):
                self.assertIsInstance(vars(Town)[name], property)

    def test_town_methods(self):
        self.assertIsInstance(vars(Town)["is_bridge"], staticmethod)
        self.assertEqual(list(inspect.signature(Town.is_bridge).parameters), ["count", "bridge"])
        self.assertIsInstance(vars(Town)["parse"], classmethod)
        self.assertEqual(list(inspect.signature(Town.parse).parameters), ["text"])

    def test_traffic_is_defined_in_its_file(self):
        self.assertEqual(Traffic.__module__, traffic.__name__)
        self.assertEqual(list(inspect.signature(Traffic).parameters), ["town", "trips"])

    def test_traffic_properties(self):
        for name in ("town", "trips", "position", "lives", "changes"):
            with self.subTest(name=name):
                self.assertIsInstance(vars(Traffic)[name], property)
                self.assertIs(vars(Traffic)[name].fset is not None, name == "position")

    def test_traffic_methods(self):
        for name, arguments in METHODS:
            with self.subTest(name=name):
                self.assertEqual(list(inspect.signature(vars(Traffic)[name]).parameters), arguments)
                self.assertIs(inspect.isgeneratorfunction(vars(Traffic)[name]), name in ("routes", "phases"))

    def test_trials_are_context_managers_of_their_file(self):
        for trial, arguments in ((Closed, ["traffic", "bridge"]), (Mended, ["traffic", "bridge", "amount"])):
            with self.subTest(trial=trial.__name__):
                self.assertEqual(trial.__module__, trials.__name__)
                self.assertEqual(list(inspect.signature(trial).parameters), arguments)
                self.assertIn("__enter__", vars(trial))
                self.assertIn("__exit__", vars(trial))

    def test_observer(self):
        self.assertEqual(Observer.__module__, observers.__name__)
        self.assertEqual(list(inspect.signature(Observer).parameters), ["towns", "trips"])
        for name in ("candidates", "records"):
            self.assertIsInstance(vars(Observer)[name], property)
        for name, arguments in OBSERVER_METHODS:
            with self.subTest(name=name):
                self.assertEqual(list(inspect.signature(vars(Observer)[name]).parameters), arguments)

    def test_works(self):
        for work, arguments in (
            (Work, ["position", "bridge"]),
            (Closing, ["position", "bridge"]),
            (Mending, ["position", "bridge", "amount"]),
            (Upkeep, ["position", "bridge", "amount", "every", "times"]),
        ):
            with self.subTest(work=work.__name__):
                self.assertEqual(work.__module__, works.__name__)
                self.assertEqual(list(inspect.signature(work).parameters), arguments)
                self.assertIn("WORD", vars(work))
        for name in ("every", "times"):
            self.assertEqual(inspect.signature(Upkeep).parameters[name].kind.name, "KEYWORD_ONLY")
        self.assertIn("MAX_BRIDGE", vars(Work))
        self.assertIn("MAX_TIMES", vars(Upkeep))

    def test_work_properties_and_methods(self):
        for name in ("position_planned", "last_planned", "bridge_planned", "line"):
            with self.subTest(name=name):
                self.assertIsInstance(vars(Work)[name], property)
        self.assertTrue(inspect.isgeneratorfunction(vars(Work)["planned"]))
        self.assertEqual(list(inspect.signature(Work.planned).parameters), ["self"])

    def test_schedule(self):
        self.assertEqual(Schedule.__module__, schedules.__name__)
        self.assertEqual(str(inspect.signature(Schedule)), "(*works)")
        for name in ("works", "change_count", "text"):
            self.assertIsInstance(vars(Schedule)[name], property)
        self.assertTrue(inspect.isgeneratorfunction(vars(Schedule)["planned"]))
        self.assertEqual(str(inspect.signature(vars(Schedule)["joined"])), "(self, *others)")
        self.assertIsInstance(vars(Schedule)["parse"], classmethod)
        self.assertEqual(list(inspect.signature(Schedule.parse).parameters), ["text"])

    def test_events_is_a_generator(self):
        self.assertTrue(inspect.isgeneratorfunction(events.events))

    def test_console(self):
        self.assertEqual(Console.__module__, console.__name__)
        self.assertEqual(list(inspect.signature(Console).parameters), ["traffic"])
        for name in ("depth", "led"):
            self.assertIsInstance(vars(Console)[name], property)
        self.assertEqual(str(inspect.signature(vars(Console)["run"])), "(self, line)")
        self.assertTrue(inspect.isgeneratorfunction(vars(Console)["answers"]))
        self.assertEqual(str(inspect.signature(vars(Console)["answers"])), "(self, *lines)")


if __name__ == "__main__":
    unittest.main()
