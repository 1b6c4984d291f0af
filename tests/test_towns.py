"""Points 1 and 2: towns, their limits and their properties."""

import unittest

from wornbridges.errors import InvalidTown
from wornbridges.towns import Town

LIMIT = 10 ** 18
GOOD = (0, 1, 1, 0)
BAD = (0, 1, 0, 0)


class TownCase(unittest.TestCase):
    def check_wrong(self, part, index, count, bridges):
        with self.assertRaises(InvalidTown) as caught:
            Town(count, bridges)
        self.assertEqual((caught.exception.part, caught.exception.index), (part, index))


class CountTest(TownCase):
    def test_counts_in_range(self):
        for count in range(1, 13):
            with self.subTest(count=count):
                self.assertEqual(Town(count, ()).place_count, count)

    def test_counts_out_of_range(self):
        for count in (-1, 0, 13, 14, 10 ** 20):
            with self.subTest(count=count):
                self.check_wrong("count", 0, count, ())

    def test_count_before_bridges(self):
        for count in (0, 13):
            with self.subTest(count=count):
                self.check_wrong("count", 0, count, (GOOD, BAD))
                self.check_wrong("count", 0, count, (GOOD,) * 25)

    def test_one_place_has_no_bridge(self):
        self.check_wrong("bridges", 0, 1, ((0, 0, 1, 1),))
        self.check_wrong("bridges", 0, 1, ((0, 1, 1, 1),))


class BridgeTest(TownCase):
    def check_bridge(self, count, bridge, valid):
        """Check a bridge by itself, and as the second one of a town."""
        with self.subTest(count=count, bridge=bridge):
            self.assertIs(Town.is_bridge(count, bridge), valid)
            if valid:
                self.assertEqual(Town(count, (GOOD, bridge)).bridges, (GOOD, bridge))
            else:
                self.check_wrong("bridges", 1, count, (GOOD, bridge))

    def test_lengths(self):
        for length, valid in ((-1, False), (0, False), (1, True), (2, True), (99, True), (100, False)):
            self.check_bridge(2, (0, 1, length, 5), valid)

    def test_lives(self):
        for life, valid in ((-1, False), (0, True), (1, True), (LIMIT, True), (LIMIT + 1, False)):
            self.check_bridge(2, (0, 1, 5, life), valid)

    def test_places(self):
        for place, valid in ((-2, False), (-1, False), (0, True), (1, False), (2, True), (3, False), (4, False)):
            self.check_bridge(3, (1, place, 5, 5), valid)
            self.check_bridge(3, (place, 1, 5, 5), valid)

    def test_places_of_the_greatest_town(self):
        self.check_bridge(12, (0, 11, 1, 1), True)
        self.check_bridge(12, (11, 0, 1, 1), True)
        self.check_bridge(12, (0, 12, 1, 1), False)
        self.check_bridge(12, (12, 0, 1, 1), False)

    def test_the_same_place(self):
        for place in range(3):
            self.check_bridge(3, (place, place, 5, 5), False)

    def test_a_tuple_of_another_size_is_no_bridge(self):
        self.assertIs(Town.is_bridge(2, (0, 1, 5)), False)
        self.assertIs(Town.is_bridge(2, (0, 1, 5, 5, 5)), False)

    def test_off_an_object(self):
        town = Town(2, ())
        self.assertIs(town.is_bridge(3, (1, 2, 1, 1)), True)
        self.assertIs(town.is_bridge(2, (1, 2, 1, 1)), False)

    def test_bridges_side_by_side(self):
        bridges = ((0, 1, 5, 5), (0, 1, 5, 5), (1, 0, 5, 5), (1, 0, 6, 7))
        self.assertEqual(Town(2, bridges).bridges, bridges)


class NumberOfBridgesTest(TownCase):
    def test_none(self):
        self.assertEqual(Town(2, ()).bridges, ())

    def test_24(self):
        self.assertEqual(Town(2, (GOOD,) * 24).bridges, (GOOD,) * 24)

    def test_more_than_24(self):
        for number in (25, 26, 40):
            with self.subTest(number=number):
                self.check_wrong("bridges", 24, 2, (GOOD,) * number)

    def test_first_of_several_invalid_ones(self):
        self.check_wrong("bridges", 0, 2, (BAD, BAD, GOOD))
        self.check_wrong("bridges", 2, 2, (GOOD, GOOD, BAD, GOOD, BAD))
        self.check_wrong("bridges", 23, 2, (GOOD,) * 23 + (BAD,))

    def test_25th_and_an_earlier_one(self):
        self.check_wrong("bridges", 0, 2, (BAD,) + (GOOD,) * 24)
        self.check_wrong("bridges", 7, 2, (GOOD,) * 7 + (BAD,) + (GOOD,) * 17)
        self.check_wrong("bridges", 23, 2, (GOOD,) * 23 + (BAD, GOOD))
        self.check_wrong("bridges", 23, 2, (GOOD,) * 23 + (BAD, BAD))

    def test_25th_itself(self):
        self.check_wrong("bridges", 24, 2, (GOOD,) * 24 + (BAD,))

    def test_25th_and_a_later_one(self):
        self.check_wrong("bridges", 24, 2, (GOOD,) * 25 + (BAD,))
        self.check_wrong("bridges", 24, 2, (GOOD,) * 24 + (BAD, BAD))


class PropertiesTest(unittest.TestCase):
    def setUp(self):
        self.bridges = ((0, 1, 2, 10), (2, 1, 99, 0), (0, 1, 1, LIMIT), (3, 0, 7, 7))
        self.town = Town(4, self.bridges)

    def test_what_the_town_was_made_of(self):
        self.assertEqual(self.town.place_count, 4)
        self.assertEqual(self.town.bridges, self.bridges)

    def test_lives(self):
        self.assertEqual(self.town.lives, (10, 0, LIMIT, 7))
        self.assertEqual(Town(1, ()).lives, ())

    def test_kinds(self):
        self.assertIsInstance(self.town.bridges, tuple)
        self.assertIsInstance(self.town.lives, tuple)
        self.assertIsInstance(self.town.text, str)

    def test_repeated_calls(self):
        for _ in range(2):
            self.assertEqual(self.town.place_count, 4)
            self.assertEqual(self.town.bridges, self.bridges)
            self.assertEqual(self.town.lives, (10, 0, LIMIT, 7))

    def test_towns_are_apart(self):
        other = Town(2, ((0, 1, 1, 1),))
        self.assertEqual(other.place_count, 2)
        self.assertEqual(other.bridges, ((0, 1, 1, 1),))
        self.test_what_the_town_was_made_of()

    def test_an_error_changes_nothing(self):
        with self.assertRaises(InvalidTown):
            Town(0, self.bridges)
        with self.assertRaises(InvalidTown):
            Town(2, self.bridges)
        self.test_what_the_town_was_made_of()


if __name__ == "__main__":
    unittest.main()
