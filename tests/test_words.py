"""Lines of words and numbers."""

import unittest

from wornbridges.words import is_number, read_numbers


class WordsTest(unittest.TestCase):
    def test_numbers(self):
        for word in ("0", "1", "9", "10", "100", "1234567890", "9" * 5000):
            with self.subTest(word=word[:20]):
                self.assertIs(is_number(word), True)

    def test_no_numbers(self):
        for word in ("", "00", "01", "-1", "+1", "1 ", " 1", "1\n", "a", "1a", "1_0", "1.0", "\u0661", "\u00b2"):
            with self.subTest(word=word):
                self.assertIs(is_number(word), False)

    def test_lines(self):
        self.assertEqual(read_numbers("at 5 mend 3 by 100", "at N mend N by N"), [5, 3, 100])
        self.assertEqual(read_numbers("lives", "lives"), [])

    def test_lines_of_another_form(self):
        for line in ("at 5 mend 3 at 100", "at 5 mend 3 by", "at 5 mend 3 by 100 100", "at N mend N by N", ""):
            with self.subTest(line=line):
                self.assertIsNone(read_numbers(line, "at N mend N by N"))

    def test_many_digits_stay_out_of_range(self):
        for many in (19, 20, 21, 4301, 10000):
            with self.subTest(many=many):
                self.assertGreaterEqual(read_numbers("go 1" + "0" * many, "go N")[0], 10 ** 19)

    def test_numbers_in_range_are_exact(self):
        for number in (0, 7, 10 ** 18, 10 ** 18 + 1, 10 ** 19 - 1):
            with self.subTest(number=number):
                self.assertEqual(read_numbers(f"go {number}", "go N"), [number])


if __name__ == "__main__":
    unittest.main()
