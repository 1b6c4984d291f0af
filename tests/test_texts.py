"""Point 3: the text of a town, and Town.parse."""

import unittest

from wornbridges.errors import InvalidText, InvalidTown
from wornbridges.towns import Town

LIMIT = 10 ** 18
TEXT = "places 12\nbridge 0 11 7 100\nbridge 3 10 99 0"
PARTS = ("-1", "+1", "01", "00", "1.0", "1_0", "x", "N", "", "1x", "\u0661", "\u00b2", "\uff11", "0x1", "1\t", "1\r")


class TextCase(unittest.TestCase):
    def check_text(self, row, text):
        with self.subTest(text=text[:60]):
            with self.assertRaises(InvalidText) as caught:
                Town.parse(text)
            self.assertEqual(caught.exception.row, row)

    def check_town(self, part, index, text):
        with self.subTest(text=text[:60]):
            with self.assertRaises(InvalidTown) as caught:
                Town.parse(text)
            self.assertEqual((caught.exception.part, caught.exception.index), (part, index))


class ThereAndBackTest(TextCase):
    def test_from_towns(self):
        for count, bridges, text in (
            (1, (), "places 1"),
            (12, (), "places 12"),
            (4, ((0, 1, 7, 100),), "places 4\nbridge 0 1 7 100"),
            (2, ((1, 0, 99, 0), (0, 1, 1, LIMIT)), f"places 2\nbridge 1 0 99 0\nbridge 0 1 1 {LIMIT}"),
        ):
            with self.subTest(text=text):
                self.assertEqual(Town(count, bridges).text, text)
                town = Town.parse(text)
                self.assertEqual((town.place_count, town.bridges, town.text), (count, bridges, text))

    def test_24_bridges(self):
        bridges = tuple([(number % 12, (number + 1) % 12, number + 1, number * 10) for number in range(24)])
        town = Town.parse(Town(12, bridges).text)
        self.assertEqual((town.place_count, town.bridges), (12, bridges))

    def test_kinds(self):
        town = Town.parse(TEXT)
        self.assertIs(town.__class__, Town)
        self.assertEqual(town.bridges, ((0, 11, 7, 100), (3, 10, 99, 0)))
        self.assertTrue(all([isinstance(bridge, tuple) for bridge in town.bridges]))

    def test_repeated_calls(self):
        self.assertEqual(Town.parse(TEXT).text, TEXT)
        self.assertEqual(Town.parse(TEXT).text, TEXT)


class FormTest(TextCase):
    def test_empty_text(self):
        self.check_text(0, "")

    def test_empty_lines(self):
        lines = TEXT.split("\n")
        for row in range(4):
            self.check_text(row, "\n".join(lines[:row] + [""] + lines[row:]))
        self.check_text(0, "\n")
        self.check_text(1, "places 1\n")
        self.check_text(1, "places 1\n\n")

    def test_a_further_space_at_each_place(self):
        for at in range(len(TEXT) + 1):
            self.check_text(TEXT[:at].count("\n"), TEXT[:at] + " " + TEXT[at:])

    def test_other_space(self):
        for space in ("\t", "\r", "\v", "\f", "\u00a0", "\u2003"):
            self.check_text(1, f"places 2\nbridge{space}0 1 7 100")
            self.check_text(1, f"places 2\nbridge 0 1 7 100{space}")
            self.check_text(0, f"places{space}2")
            self.check_text(0, f"places 2{space}")

    def test_other_ends_of_lines(self):
        for end in ("\r\n", "\r", "\v", "\f", "\x1c", "\x85", "\u2028"):
            self.check_text(0, f"places 2{end}bridge 0 1 7 100")

    def test_a_wrong_part_instead_of_each_number(self):
        for part in PARTS:
            self.check_text(0, f"places {part}")
            for at in range(1, 5):
                words = "bridge 0 1 7 100".split(" ")
                words[at] = part
                self.check_text(2, "places 2\nbridge 0 1 7 100\n" + " ".join(words))

    def test_leading_zeros(self):
        self.check_text(0, "places 02")
        self.check_text(1, "places 2\nbridge 00 1 7 100")
        self.check_text(1, "places 2\nbridge 0 01 7 100")
        self.check_text(1, "places 2\nbridge 0 1 07 100")
        self.check_text(1, "places 2\nbridge 0 1 7 0100")
        self.check_text(1, "places 2\nbridge 0 1 7 " + "0" * 5000)

    def test_wrong_words(self):
        for word in ("Places", "place", "placess", "N", "1", ""):
            self.check_text(0, f"{word} 2")
        for word in ("Bridge", "bridges", "bridg", "N", "1", "places", ""):
            self.check_text(1, f"places 2\n{word} 0 1 7 100")

    def test_too_few_and_too_many_words(self):
        for line in ("places", "places 2 3", "2", "places 2 places 2"):
            self.check_text(0, line)
        for line in ("bridge", "bridge 0", "bridge 0 1", "bridge 0 1 7", "bridge 0 1 7 100 5", "0 1 7 100"):
            self.check_text(1, f"places 2\n{line}")

    def test_lines_at_wrong_places(self):
        self.check_text(0, "bridge 0 1 7 100")
        self.check_text(0, "bridge 0 1 7 100\nplaces 2")
        self.check_text(1, "places 2\nplaces 2")
        self.check_text(2, "places 2\nbridge 0 1 7 100\nplaces 2\nbridge 0 1 7 100")

    def test_first_of_several_wrong_lines(self):
        self.check_text(0, "place 2\nbridge 0 1 7\nbridge")
        self.check_text(1, "places 2\nbridge 0 1 7\nbridge")
        self.check_text(2, "places 2\nbridge 0 1 7 100\nbridge\nbridge 0 1 7")

    def test_a_wrong_line_behind_too_many_bridges(self):
        self.check_text(30, "places 2" + "\nbridge 0 1 7 100" * 29 + "\nbridge")


class RangeTest(TextCase):
    def test_counts(self):
        self.check_town("count", 0, "places 0")
        self.check_town("count", 0, "places 13")
        self.check_town("count", 0, "places 0\nbridge 0 1 7 100")

    def test_bridges(self):
        for line in ("0 0 7 100", "0 2 7 100", "2 0 7 100", "0 1 0 100", "0 1 100 100", f"0 1 7 {LIMIT + 1}"):
            self.check_town("bridges", 1, f"places 2\nbridge 0 1 7 100\nbridge {line}")

    def test_too_many_bridges(self):
        self.check_town("bridges", 24, "places 2" + "\nbridge 0 1 7 100" * 25)

    def test_text_before_town(self):
        self.check_text(1, "places 13\nbridge 0 1 7")
        self.check_text(2, "places 2\nbridge 0 0 7 100\nbridge 0 1 7 x")
        self.check_text(26, "places 2" + "\nbridge 0 1 7 100" * 25 + "\n")

    def test_many_digits(self):
        for digits in ("1" * 20, "1" * 21, "9" * 900, "1" + "0" * 4300, "2" * 5000, "12" + "0" * 20000):
            self.check_town("count", 0, f"places {digits}")
            for at in range(1, 5):
                words = "bridge 0 1 7 100".split(" ")
                words[at] = digits
                self.check_town("bridges", 0, "places 2\n" + " ".join(words))

    def test_many_digits_in_wrong_lines(self):
        digits = "9" * 5000
        self.check_text(1, f"places {digits}\nbridge 0 1 7")
        self.check_text(1, f"places 2\nbridge 0 1 7 {digits}x")
        self.check_text(1, f"places 2\nbridge 0 1 7 {digits} {digits}")
        self.check_text(1, f"places 2\nbridge 0 1 7 0{digits}")

    def test_the_greatest_life(self):
        self.assertEqual(Town.parse(f"places 2\nbridge 0 1 7 {LIMIT}").lives, (LIMIT,))


if __name__ == "__main__":
    unittest.main()
