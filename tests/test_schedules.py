"""Point 15: schedules, their limits and their texts."""

import inspect
import random
import unittest

from wornbridges.errors import InvalidText, InvalidWork
from wornbridges.schedules import Schedule
from wornbridges.works import Closing, Mending, Upkeep

LIMIT = 10 ** 18
LINES = ("at 5 close 3", "at 5 mend 3 by 100", "at 5 mend 3 by 100 every 20 times 4")
TEXT = "\n".join(LINES)


def upkeep(times):
    return Upkeep(0, 0, 1, every=1, times=times)


def told(schedule):
    """Return what a schedule tells."""
    lines = [work.line for work in schedule.works]
    return (lines, schedule.change_count, schedule.text, list(schedule.planned()))


class ScheduleCase(unittest.TestCase):
    def check_work(self, index, call, *arguments):
        with self.subTest(call=call.__name__, arguments=str(arguments)[:80]):
            with self.assertRaises(InvalidWork) as caught:
                call(*arguments)
            self.assertEqual(caught.exception.index, index)

    def check_text(self, row, text):
        with self.subTest(text=text[:80]):
            with self.assertRaises(InvalidText) as caught:
                Schedule.parse(text)
            self.assertEqual(caught.exception.row, row)


class MakingTest(ScheduleCase):
    def test_values(self):
        self.assertEqual((Schedule.MAX_WORKS, Schedule.MAX_CHANGES), (20, 60))

    def test_no_works(self):
        self.assertEqual(told(Schedule()), ([], 0, "", []))
        self.assertEqual(Schedule().works, ())

    def test_all_three_kinds(self):
        works = (Closing(5, 3), Mending(5, 3, 100), Upkeep(5, 3, 100, every=20, times=4))
        schedule = Schedule(*works)
        self.assertEqual((schedule.works, schedule.change_count, schedule.text), (works, 6, TEXT))
        self.assertIsInstance(schedule.works, tuple)

    def test_twenty_works(self):
        works = [Closing(number, number) for number in range(20)]
        self.assertEqual(Schedule(*works).works, tuple(works))
        self.assertEqual(Schedule(*works).change_count, 20)
        for more in range(1, 5):
            self.check_work(20, Schedule, *works, *works[:more])

    def test_sixty_changes(self):
        for times in ((50, 10), (10, 50), (20, 20, 20), (3,) * 20):
            self.assertEqual(Schedule(*[upkeep(number) for number in times]).change_count, 60)
        for times, index in (((50, 11), 1), ((10, 50, 1), 2), ((20, 20, 20, 1, 50), 3), ((50, 50), 1), ((4,) * 20, 15)):
            self.check_work(index, Schedule, *[upkeep(number) for number in times])
        self.check_work(2, Schedule, upkeep(10), upkeep(50), Closing(0, 0))
        self.check_work(2, Schedule, upkeep(10), upkeep(50), Mending(0, 0, 1))

    def test_whichever_comes_first(self):
        self.check_work(20, Schedule, *[upkeep(3)] * 21)
        self.check_work(20, Schedule, *[upkeep(3)] * 20, upkeep(50))
        self.check_work(20, Schedule, *[upkeep(2)] * 21, upkeep(50))
        self.check_work(19, Schedule, *[upkeep(3)] * 19, upkeep(4), upkeep(1))
        self.check_work(5, Schedule, *[upkeep(11)] * 21)


class PlannedTest(ScheduleCase):
    def test_ascending_positions(self):
        schedule = Schedule(Closing(9, 1), Upkeep(1, 2, 3, every=5, times=3), Mending(7, 0, 1), Closing(0, 0))
        wanted = [("close", 0, 0), ("mend", 1, 2, 3), ("mend", 6, 2, 3), ("mend", 7, 0, 1), ("close", 9, 1),
                  ("mend", 11, 2, 3)]
        self.assertEqual(list(schedule.planned()), wanted)

    def test_order_of_the_works_at_the_same_position(self):
        works = [Closing(6, 5), Upkeep(0, 4, 9, every=3, times=4), Mending(6, 0, 7), Closing(6, 1), Closing(3, 9)]
        at_six = [("close", 6, 5), ("mend", 6, 4, 9), ("mend", 6, 0, 7), ("close", 6, 1)]
        for turn in range(5):
            found = list(Schedule(*works[turn:], *works[:turn]).planned())
            position_six = [change for change in found if change[1] == 6]
            order = {work.bridge_planned: index for index, work in enumerate(works[turn:] + works[:turn])}
            self.assertEqual(position_six, sorted(at_six, key=lambda change: order[change[2]]))
            self.assertEqual([change[1] for change in found], sorted([change[1] for change in found]))

    def test_a_generator(self):
        schedule = Schedule(Closing(3, 1), Closing(2, 1))
        self.assertTrue(inspect.isgenerator(schedule.planned()))
        self.assertEqual(next(schedule.planned()), ("close", 2, 1))
        list(schedule.planned()).clear()
        self.assertEqual(list(schedule.planned()), [("close", 2, 1), ("close", 3, 1)])

    def test_against_a_plain_list(self):
        chance = random.Random(41)
        for _ in range(100):
            works = [random_work(chance, 30) for _ in range(chance.randint(0, 12))]
            changes = [(change[1], index, change) for index, work in enumerate(works) for change in work.planned()]
            if len(changes) <= 60:
                schedule = Schedule(*works)
                self.assertEqual(list(schedule.planned()), [change for _, _, change in sorted(changes)])
                self.assertEqual(schedule.change_count, len(changes))
                self.assertEqual(schedule.text, "\n".join([work.line for work in works]))
                self.assertEqual(told(Schedule.parse(schedule.text)), told(schedule))


class JoinedTest(ScheduleCase):
    def test_joined(self):
        one, other = Schedule(Closing(5, 1), Closing(3, 1)), Schedule(Closing(4, 2), Mending(3, 0, 1))
        third = Schedule(Closing(3, 7))
        lines = {one: ["at 5 close 1", "at 3 close 1"], other: ["at 4 close 2", "at 3 mend 0 by 1"]}
        lines[third] = ["at 3 close 7"]
        for others in ((), (one,), (other,), (other, third), (third, other), (third, third, one), (Schedule(),)):
            wanted = lines[one] + [line for added in others for line in lines.get(added, [])]
            found = one.joined(*others)
            self.assertEqual([work.line for work in found.works], wanted)
            self.assertEqual(found.text, "\n".join(wanted))
            self.assertIsInstance(found, Schedule)
        self.assertEqual([work.line for work in Schedule().joined(third).works], lines[third])
        found = list(one.joined(other, third).planned())
        wanted = [("close", 3, 1), ("mend", 3, 0, 1), ("close", 3, 7), ("close", 4, 2), ("close", 5, 1)]
        self.assertEqual(found, wanted)

    def test_schedules_stay_as_they_are(self):
        one, other = Schedule(Closing(5, 1)), Schedule(Closing(4, 2))
        one.joined(other, one)
        self.assertEqual((told(one)[0], told(other)[0]), (["at 5 close 1"], ["at 4 close 2"]))

    def test_too_long(self):
        ten = Schedule(*[Closing(1, 1)] * 10)
        self.assertEqual(ten.joined(ten).change_count, 20)
        self.check_work(20, ten.joined, ten, Schedule(Closing(2, 2)))
        self.check_work(20, ten.joined, ten, ten)
        fifty = Schedule(upkeep(50))
        self.assertEqual(fifty.joined(ten).change_count, 60)
        self.check_work(1, fifty.joined, fifty)
        self.check_work(11, fifty.joined, ten, Schedule(Closing(2, 2)))
        self.assertEqual(ten.joined(Schedule(), fifty).change_count, 60)
        self.check_work(11, ten.joined, fifty, Schedule(Closing(2, 2)))
        self.assertEqual((fifty.change_count, ten.change_count), (50, 10))


def random_work(chance, most):
    """Return a random work, with numbers up to a greatest one."""
    position, bridge, amount = chance.randint(0, most), chance.randint(0, 23), chance.randint(1, most)
    kind = chance.randrange(3)
    if kind == 0:
        return Closing(position, bridge)
    if kind == 1:
        return Mending(position, bridge, amount)
    return Upkeep(position, bridge, amount, every=chance.randint(1, most), times=chance.randint(1, 9))


class ParseTest(ScheduleCase):
    def test_there_and_back(self):
        for lines in (LINES, LINES[::-1], LINES[:1], LINES[1:2], LINES[2:], LINES * 3, (f"at {LIMIT} close 23",),
                      (f"at {LIMIT} mend 23 by {LIMIT}",), (f"at 0 mend 0 by 1 every {LIMIT} times 2", "at 0 close 0")):
            schedule = Schedule.parse("\n".join(lines))
            self.assertEqual([work.line for work in schedule.works], list(lines))
            self.assertEqual(schedule.text, "\n".join(lines))

    def test_kinds_of_works(self):
        works = Schedule.parse(TEXT).works
        self.assertEqual([work.__class__ for work in works], [Closing, Mending, Upkeep])
        self.assertIs(Schedule.parse(TEXT).__class__, Schedule)

    def test_the_empty_text(self):
        self.assertEqual(told(Schedule.parse("")), ([], 0, "", []))

    def test_empty_lines(self):
        for row in range(4):
            self.check_text(row, "\n".join([*LINES[:row], "", *LINES[row:]]))
        self.check_text(0, "\n")
        self.check_text(0, "\n\n\n")
        self.check_text(1, "at 5 close 3\n")

    def test_a_further_space_at_each_place(self):
        for at in range(len(TEXT) + 1):
            self.check_text(TEXT[:at].count("\n"), TEXT[:at] + " " + TEXT[at:])
        self.check_text(0, " ")

    def test_other_space(self):
        for space in ("\t", "\r", "\v", "\f", "\u00a0", "\u2003"):
            self.check_text(1, f"at 1 close 1\nat 2{space}close 1")
            self.check_text(1, f"at 1 close 1\nat 2 close 1{space}")
            self.check_text(0, f"at 1 close 1{space}\nat 2 close 1")

    def test_other_ends_of_lines(self):
        for end in ("\r\n", "\r", "\v", "\f", "\x1c", "\x85", "\u2028"):
            self.check_text(0, f"at 1 close 1{end}at 2 close 1")

    def test_words_replaced(self):
        parts = ("x", "N", "", "At", "atz", "open", "-1", "+1", "01", "00", "1.0", "1_0", "\u0661", "\u00b2", "1\t")
        for row, line in enumerate(LINES):
            words = line.split(" ")
            for at in range(len(words)):
                for part in parts:
                    changed = [*words[:at], part, *words[at + 1:]]
                    self.check_text(row, "\n".join([*LINES[:row], " ".join(changed), *LINES[row + 1:]]))

    def test_words_left_out(self):
        for line in LINES:
            words = line.split(" ")
            for at in range(len(words)):
                self.check_text(1, f"at 1 close 1\n{' '.join(words[:at] + words[at + 1:])}")

    def test_words_put_in(self):
        for line in LINES:
            words = line.split(" ")
            for at in range(len(words) + 1):
                for part in ("1", "at", "close", "by", "every", "times"):
                    self.check_text(1, f"at 1 close 1\n{' '.join([*words[:at], part, *words[at:]])}")

    def test_words_that_change_places(self):
        for line in ("at 5 close 3 by 100", "at 5 mend 3", "at 5 mend 3 every 100", "close 3 at 5", "at 5 work 3",
                     "at 5 mend 3 by 100 times 20 every 4", "at 5 close 3 every 20 times 4", "at close 5 3",
                     "at 5 mend 3 by 100 every 20", "at 5 mend 3 by 100 times 4"):
            self.check_text(0, line)
            self.check_text(2, f"at 1 close 1\nat 1 close 1\n{line}\n{line}")

    def test_lines_left_out_and_twice(self):
        self.assertEqual(Schedule.parse("\n".join(LINES[::2])).text, "\n".join(LINES[::2]))
        self.assertEqual(Schedule.parse(f"{LINES[0]}\n{TEXT}").change_count, 7)
        self.check_text(0, f"{LINES[0]} {LINES[1]}")

    def test_leading_zeros(self):
        for line in ("at 05 close 3", "at 5 close 03", "at 00 close 3", "at 5 mend 3 by 0100",
                     "at 5 mend 3 by 100 every 020 times 4", "at 5 mend 3 by 100 every 20 times 04"):
            self.check_text(0, line)
        self.check_text(0, "at 5 mend 3 by " + "0" * 5000)

    def test_zeros(self):
        self.assertEqual(Schedule.parse("at 0 close 0").text, "at 0 close 0")
        for line in ("at 5 mend 3 by 0", "at 5 mend 3 by 100 every 0 times 4", "at 5 mend 3 by 100 every 20 times 0"):
            self.check_work(0, Schedule.parse, line)


class RangeTest(ScheduleCase):
    def test_each_number_out_of_range(self):
        for line in (
            f"at {LIMIT + 1} close 3", "at 5 close 24", f"at {LIMIT + 1} mend 3 by 1", "at 5 mend 24 by 1",
            "at 5 mend 3 by 0", f"at 5 mend 3 by {LIMIT + 1}", f"at {LIMIT + 1} mend 3 by 1 every 1 times 1",
            "at 5 mend 24 by 1 every 1 times 1", "at 5 mend 3 by 0 every 1 times 1", "at 5 mend 3 by 1 every 0 times 1",
            f"at 5 mend 3 by 1 every {LIMIT + 1} times 1", "at 5 mend 3 by 1 every 1 times 0",
            "at 5 mend 3 by 1 every 1 times 51", f"at 1 mend 3 by 1 every {LIMIT} times 2",
        ):
            for row in range(3):
                self.check_work(row, Schedule.parse, "\n".join(["at 1 close 1"] * row + [line] + ["at 1 close 1"]))

    def test_the_first_wrong_line(self):
        self.check_work(0, Schedule.parse, "at 5 close 24\nat 5 open 3")
        self.check_text(0, "at 5 open 3\nat 5 close 24")
        self.check_work(1, Schedule.parse, "at 5 close 3\nat 5 close 24\n\nat 5 close 25")
        self.check_text(1, "at 5 close 3\n\nat 5 close 24")
        self.check_work(2, Schedule.parse, "at 5 close 3\nat 5 close 23\nat 5 mend 3 by 0\nat 5 close 24\nx")

    def test_form_before_range_in_a_line(self):
        self.check_text(0, f"at {LIMIT + 1} close 03")
        self.check_text(0, "at 5 close 24 ")
        self.check_text(0, "at 5 mend 24 by 0 every 0")

    def test_thousands_of_digits(self):
        for digits in ("1" * 20, "1" * 21, "1" + "0" * 4300, "9" * 5000):
            for line in (f"at {digits} close 3", f"at 5 close {digits}", f"at 5 mend 3 by {digits}",
                         f"at 5 mend 3 by 1 every {digits} times 1", f"at 5 mend 3 by 1 every 1 times {digits}"):
                self.check_work(1, Schedule.parse, f"at 5 close 3\n{line}")
                self.check_text(1, f"at 5 close 3\n{line}x")
                self.check_text(1, f"at 5 close 3\n{line} 1")

    def test_too_many_lines(self):
        lines = ["at 5 close 3"] * 20
        self.assertEqual(Schedule.parse("\n".join(lines)).change_count, 20)
        self.check_work(20, Schedule.parse, "\n".join([*lines, "at 5 close 3"]))
        self.check_work(20, Schedule.parse, "\n".join(lines * 3))

    def test_too_many_changes(self):
        lines = ["at 5 mend 3 by 1 every 1 times 30"] * 2
        self.assertEqual(Schedule.parse("\n".join(lines)).change_count, 60)
        self.check_work(2, Schedule.parse, "\n".join([*lines, "at 5 close 3"]))
        self.check_work(2, Schedule.parse, "\n".join(lines * 20))

    def test_too_many_works_behind_all_else(self):
        lines = ["at 5 close 3"] * 30
        self.check_text(30, "\n".join([*lines, "at 5 open 3"]))
        self.check_work(30, Schedule.parse, "\n".join([*lines, "at 5 close 24"]))
        lines = ["at 5 mend 3 by 1 every 1 times 30"] * 3
        self.check_text(3, "\n".join([*lines, ""]))
        self.check_work(3, Schedule.parse, "\n".join([*lines, f"at {LIMIT} mend 3 by 1 every 1 times 2"]))


if __name__ == "__main__":
    unittest.main()
