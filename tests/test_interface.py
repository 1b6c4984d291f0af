"""The interface: names, arguments, and the files and classes that define them."""

import inspect
import unittest

from wornbridges import routes, towns
from wornbridges.towns import Town

FUNCTIONS = (
    (routes, "shortest_route", ["town", "remaining", "one", "other", "load"]),
    (routes, "route_length", ["town", "route"]),
    (routes, "reached_places", ["town", "remaining", "place", "load"]),
)


class InterfaceTest(unittest.TestCase):
    def test_functions(self):
        for module, name, arguments in FUNCTIONS:
            with self.subTest(name=name):
                function = getattr(module, name)
                self.assertEqual(function.__module__, module.__name__)
                self.assertEqual(list(inspect.signature(function).parameters), arguments)

    def test_town_is_defined_in_its_file(self):
        self.assertEqual(Town.__module__, towns.__name__)
        self.assertEqual(list(inspect.signature(Town).parameters), ["count", "bridges"])

    def test_town_values(self):
        self.assertEqual((Town.MAX_PLACES, Town.MAX_BRIDGES, Town.MAX_LIFE), (12, 24, 10 ** 18))

    def test_town_properties(self):
        for name in ("place_count", "bridges", "lives", "text"):
            with self.subTest(name=name):
                self.assertIsInstance(vars(Town)[name], property)

    def test_town_methods(self):
        self.assertIsInstance(vars(Town)["is_bridge"], staticmethod)
        self.assertEqual(list(inspect.signature(Town.is_bridge).parameters), ["count", "bridge"])
        self.assertIsInstance(vars(Town)["parse"], classmethod)
        self.assertEqual(list(inspect.signature(Town.parse).parameters), ["text"])


if __name__ == "__main__":
    unittest.main()
