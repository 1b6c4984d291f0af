"""The examples of the interface, as they stand there."""

import unittest

from examples import run_example

TOWNS = (
    """
>>> from wornbridges.towns import Town
>>> town = Town(3, ((0, 1, 2, 10), (1, 2, 3, 4), (0, 2, 9, 7)))
>>> [town.place_count, town.lives]
[3, (10, 4, 7)]
""",
    """
>>> from wornbridges.towns import Town
>>> Town(2, ((0, 1, 100, 5),))
raises InvalidTown(part='bridges', index=0)
""",
    r"""
>>> from wornbridges.towns import Town
>>> town = Town(3, ((0, 1, 2, 10), (1, 2, 3, 4), (0, 2, 9, 7)))
>>> town.text
'places 3\nbridge 0 1 2 10\nbridge 1 2 3 4\nbridge 0 2 9 7'
""",
    """
>>> from wornbridges.towns import Town
>>> [Town.is_bridge(2, (0, 1, 5, 0)), Town.is_bridge(2, (0, 2, 5, 0))]
[True, False]
""",
    r"""
>>> from wornbridges.towns import Town
>>> Town.parse("places 2\nbridge 0 1 7 100").bridges
((0, 1, 7, 100),)
""",
    r"""
>>> from wornbridges.towns import Town
>>> Town.parse("places 2\nbridge 0 1 7")
raises InvalidText(row=1)
""",
)

ROUTES = (
    """
>>> from wornbridges.towns import Town
>>> from wornbridges.routes import shortest_route
>>> town = Town(3, ((0, 1, 2, 10), (1, 2, 3, 4), (0, 2, 9, 7)))
>>> [shortest_route(town, (10, 4, 7), 0, 2, 1), shortest_route(town, (10, 4, 7), 0, 2, 5)]
[(0, 1), (2,)]
""",
    """
>>> from wornbridges.towns import Town
>>> from wornbridges.routes import route_length
>>> town = Town(3, ((0, 1, 2, 10), (1, 2, 3, 4), (0, 2, 9, 7)))
>>> route_length(town, (0, 1))
5
""",
    """
>>> from wornbridges.towns import Town
>>> from wornbridges.routes import reached_places
>>> town = Town(3, ((0, 1, 2, 10), (1, 2, 3, 4), (0, 2, 9, 7)))
>>> reached_places(town, (10, 0, 0), 0, 1)
[0, 1]
""",
)


class ExampleTest(unittest.TestCase):
    def check(self, examples):
        for example in examples:
            with self.subTest(example=example):
                given, wanted = run_example(example)
                self.assertEqual(given, wanted)

    def test_towns(self):
        self.check(TOWNS)

    def test_routes(self):
        self.check(ROUTES)


if __name__ == "__main__":
    unittest.main()
