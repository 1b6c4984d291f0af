"""Point 18: the console."""

import inspect
import random
import unittest

from simulated import make_changes, random_changes, random_town, random_trips
from wornbridges.console import Console
from wornbridges.counts import crossings, failures
from wornbridges.errors import InvalidCount, InvalidLife, UnknownBridge
from wornbridges.towns import Town
from wornbridges.traffic import Traffic

LIMIT = 10 ** 18
TOWN = Town(3, ((0, 1, 1, 3), (1, 2, 1, 9), (0, 2, 5, 9)))
TRIPS = ((0, 2, 1),)
LINES = (
    "go 5", "close 1", "mend 1 by 7", "lives", "route 5", "crossings 1 100", "failures 100",
    "begin", "commit", "rollback",
)


def state_of(traffic):
    """Return what can be seen of traffic."""
    lives = [traffic.lives_after(count) for count in (0, 1, 5, 20, LIMIT)]
    return (traffic.position, traffic.lives, traffic.changes, lives, list(traffic.phases()))


class ConsoleCase(unittest.TestCase):
    def setUp(self):
        self.traffic = Traffic(TOWN, TRIPS)
        self.console = Console(self.traffic)

    def check(self, *rows):
        """Run lines and check their answers."""
        for line, answer in rows:
            with self.subTest(line=line):
                self.assertEqual(self.console.run(line), answer)

    def check_quiet(self, *rows):
        """Run lines that change nothing, and check their answers."""
        for line, answer in rows:
            before = (state_of(self.console.led), self.console.depth)
            with self.subTest(line=line[:60]):
                self.assertEqual(self.console.run(line), answer)
                self.assertEqual((state_of(self.console.led), self.console.depth), before)


class AnswerTest(ConsoleCase):
    def test_go(self):
        for position in (5, 0, LIMIT, 1, 20):
            self.check((f"go {position}", f"position {position}"))
            self.assertEqual(self.console.led.position, position)

    def test_close(self):
        self.check(("go 2", "position 2"), ("close 1", "closed 1"), ("close 1", "closed 1"), ("close 2", "closed 2"))
        self.assertEqual(self.console.led.changes, [("close", 2, 1), ("close", 2, 1), ("close", 2, 2)])
        self.assertEqual(self.console.led.lives, (1, 0, 0))

    def test_mend(self):
        self.check(("go 4", "position 4"), ("mend 0 by 1", "mended 0 by 1"),
                   (f"mend 2 by {LIMIT}", f"mended 2 by {LIMIT}"))
        self.assertEqual(self.console.led.changes, [("mend", 4, 0, 1), ("mend", 4, 2, LIMIT)])

    def test_lives(self):
        self.check_quiet(("lives", "lives 3 9 9"))
        self.check(("go 5", "position 5"))
        self.check_quiet(("lives", "lives 0 6 7"))
        self.check((f"mend 0 by {LIMIT}", f"mended 0 by {LIMIT}"))
        self.check_quiet(("lives", f"lives {LIMIT} 6 7"))
        self.assertEqual(Console(Traffic(Town(1, ()), ((0, 0, 1),))).run("lives"), "lives")

    def test_route(self):
        self.check_quiet(("route 1", "route 0 1"), ("route 3", "route 0 1"), ("route 4", "route 2"),
                         ("route 12", "route 2"), ("route 13", "fails"), (f"route {LIMIT}", "fails"))
        self.assertEqual(Console(Traffic(TOWN, ((1, 1, 1),))).run("route 7"), "route")

    def test_route_whatever_the_position(self):
        self.check(("go 15", "position 15"), ("mend 0 by 1", "mended 0 by 1"), ("go 3", "position 3"))
        self.check_quiet(("route 16", "route 0 1"), ("route 17", "fails"), ("route 1", "route 0 1"))

    def test_crossings(self):
        self.check_quiet(("crossings 0 100", "crossings 3"), ("crossings 2 100", "crossings 9"),
                         ("crossings 2 5", "crossings 2"), ("crossings 1 0", "crossings 0"),
                         (f"crossings 1 {LIMIT}", "crossings 3"))

    def test_failures(self):
        self.check_quiet(("failures 100", "failures 88"), ("failures 0", "failures 0"), ("failures 12", "failures 0"),
                         (f"failures {LIMIT}", f"failures {LIMIT - 12}"))

    def test_later_changes_are_forgotten(self):
        self.check(("go 9", "position 9"), ("close 2", "closed 2"), ("go 5", "position 5"),
                   ("mend 2 by 1", "mended 2 by 1"))
        self.assertEqual(self.console.led.changes, [("mend", 5, 2, 1)])
        self.check_quiet(("route 13", "route 2"), ("route 14", "fails"))


class MalformedTest(ConsoleCase):
    def check_malformed(self, lines):
        self.check_quiet(*[(line, "malformed") for line in lines])

    def test_empty_lines(self):
        self.check_malformed(["", " ", "  ", "\n", "\t"])

    def test_a_further_space_at_each_place(self):
        for line in LINES:
            self.check_malformed([line[:at] + " " + line[at:] for at in range(len(line) + 1)])

    def test_other_space(self):
        for line in LINES:
            for space in ("\t", "\n", "\r", "\u00a0"):
                self.check_malformed([line + space, space + line])
                if " " in line:
                    self.check_malformed([line.replace(" ", space)])

    def test_missing_and_further_words(self):
        for line in LINES:
            words = line.split(" ")
            for at in range(len(words)):
                self.check_malformed([" ".join(words[:at] + words[at + 1:])])
            for at in range(len(words) + 1):
                self.check_malformed([" ".join([*words[:at], part, *words[at:]]) for part in ("1", "go", "by")])

    def test_wrong_words(self):
        parts = ("x", "N", "-1", "+1", "01", "00", "1.0", "1_0", "\u0661", "\u00b2", "Go", "LIVES", "lives N")
        for line in LINES:
            words = line.split(" ")
            for at in range(len(words)):
                for part in parts:
                    self.check_malformed([" ".join([*words[:at], part, *words[at + 1:]])])

    def test_leading_zeros(self):
        self.check_malformed(["go 05", "go 00", "close 01", "mend 01 by 7", "mend 1 by 07", "route 05"])
        self.check_malformed(["crossings 01 1", "crossings 1 01", "failures 0100", "go " + "0" * 5000])

    def test_lines_of_other_texts(self):
        self.check_malformed(["jump 1", "position 5", "closed 1", "open", "at 5 close 3", "bridge 0 1 1 1", "mend 1 7"])

    def test_two_lines_at_once(self):
        self.check_malformed(["lives\nlives", "begin\ncommit"])


class ErrorTest(ConsoleCase):
    def test_unknown_bridges(self):
        for bridge in (3, 24, LIMIT, 10 ** 30, int("1" * 4000)):
            self.check_quiet((f"close {bridge}", "error bridge"), (f"mend {bridge} by 5", "error bridge"),
                             (f"crossings {bridge} 5", "error bridge"))

    def test_numbers_out_of_range(self):
        for number in (LIMIT + 1, 10 ** 19, 10 ** 30, int("1" * 4000)):
            self.check_quiet((f"go {number}", "error number"), (f"mend 1 by {number}", "error number"),
                             (f"route {number}", "error number"), (f"crossings 1 {number}", "error number"),
                             (f"failures {number}", "error number"))
        self.check_quiet(("mend 1 by 0", "error number"), ("route 0", "error number"))

    def test_thousands_of_digits(self):
        digits = "1" * 9000
        self.check_quiet((f"go {digits}", "error number"), (f"close {digits}", "error bridge"),
                         (f"mend 1 by {digits}", "error number"), (f"go {digits}x", "malformed"))

    def test_too_great_a_life(self):
        for _ in range(9):
            self.check((f"mend 1 by {LIMIT}", f"mended 1 by {LIMIT}"))
        self.check_quiet((f"mend 1 by {LIMIT}", "error life"), (f"mend 1 by {LIMIT - 8}", "error life"))
        self.check((f"mend 1 by {LIMIT - 9}", f"mended 1 by {LIMIT - 9}"))
        self.check_quiet(("mend 1 by 1", "error life"))

    def test_the_first_one_of_several_errors(self):
        for _ in range(10):
            self.check((f"mend 0 by {LIMIT - 1}", f"mended 0 by {LIMIT - 1}"))
        self.check_quiet((f"mend 3 by {LIMIT + 1}", "error bridge"), ("mend 3 by 0", "error bridge"),
                         (f"mend 0 by {LIMIT + 1}", "error number"), ("mend 0 by 0", "error number"),
                         (f"mend 0 by {LIMIT}", "error life"), (f"crossings 3 {LIMIT + 1}", "error bridge"))

    def test_no_transaction(self):
        self.check_quiet(("commit", "error transaction"), ("rollback", "error transaction"))
        self.check(("begin", "open 1"), ("commit", "open 0"))
        self.check_quiet(("rollback", "error transaction"), ("commit", "error transaction"))

    def test_a_line_that_cannot_be_done_does_not_forget_later_changes(self):
        self.check(("go 9", "position 9"), ("close 2", "closed 2"), ("go 2", "position 2"))
        self.check_quiet(("close 3", "error bridge"), ("mend 2 by 0", "error number"), ("go -1", "malformed"))
        self.assertEqual(self.console.led.changes, [("close", 9, 2)])


class TransactionTest(ConsoleCase):
    def test_values(self):
        self.assertEqual(Console.MAX_DEPTH, 8)

    def test_up_to_eight(self):
        for number in range(1, 9):
            self.check(("begin", f"open {number}"))
            self.assertEqual(self.console.depth, number)
        self.check_quiet(("begin", "error number"), ("begin", "error number"))
        self.check(("commit", "open 7"), ("begin", "open 8"))
        self.check_quiet(("begin", "error number"))
        for number in range(7, -1, -1):
            self.check(("rollback" if number % 2 else "commit", f"open {number}"))
            self.assertEqual(self.console.depth, number)
        self.check_quiet(("rollback", "error transaction"))

    def test_rollback(self):
        self.check(("go 4", "position 4"), ("mend 0 by 2", "mended 0 by 2"))
        before = state_of(self.console.led)
        self.check(("begin", "open 1"), ("go 9", "position 9"), ("close 2", "closed 2"), ("go 1", "position 1"),
                   ("mend 1 by 5", "mended 1 by 5"), ("rollback", "open 0"))
        self.assertEqual(state_of(self.console.led), before)
        self.check(("begin", "open 1"), ("rollback", "open 0"))
        self.assertEqual(state_of(self.console.led), before)

    def test_commit(self):
        self.check(("begin", "open 1"), ("go 4", "position 4"), ("close 2", "closed 2"), ("commit", "open 0"))
        self.assertEqual((self.console.led.position, self.console.led.changes), (4, [("close", 4, 2)]))

    def test_transactions_in_transactions(self):
        states = []
        for number in range(8):
            states.append(state_of(self.console.led))
            self.check(("begin", f"open {number + 1}"), (f"go {number + 1}", f"position {number + 1}"),
                       (f"mend 0 by {number + 1}", f"mended 0 by {number + 1}"))
        for number in range(7, -1, -1):
            self.check(("rollback", f"open {number}"))
            self.assertEqual(state_of(self.console.led), states[number])

    def test_an_outer_one_takes_back_what_an_inner_one_has_kept(self):
        before = state_of(self.console.led)
        self.check(("begin", "open 1"), ("close 0", "closed 0"), ("begin", "open 2"), ("go 3", "position 3"),
                   ("close 2", "closed 2"), ("commit", "open 1"))
        self.assertEqual(self.console.led.changes, [("close", 0, 0), ("close", 3, 2)])
        self.check(("begin", "open 2"), ("go 2", "position 2"), ("rollback", "open 1"))
        self.assertEqual(self.console.led.position, 3)
        self.check(("rollback", "open 0"))
        self.assertEqual(state_of(self.console.led), before)

    def test_what_is_asked_within_a_transaction(self):
        self.check(("begin", "open 1"), ("close 0", "closed 0"))
        self.check_quiet(("route 1", "route 2"), ("lives", "lives 0 9 9"), ("failures 20", "failures 11"))
        self.check(("rollback", "open 0"))
        self.check_quiet(("route 1", "route 0 1"), ("lives", "lives 3 9 9"), ("failures 20", "failures 8"))


class CopyTest(ConsoleCase):
    def setUp(self):
        self.traffic = Traffic(TOWN, TRIPS)
        make_changes(self.traffic, [("mend", 4, 0, 1), ("close", 9, 2)])
        self.traffic.go_to(6)
        self.console = Console(self.traffic)

    def test_a_copy(self):
        self.assertEqual(state_of(self.console.led), state_of(self.traffic))
        self.assertIsNot(self.console.led, self.traffic)
        self.assertEqual((self.console.led.town, self.console.led.trips), (TOWN, TRIPS))
        self.assertEqual(self.console.depth, 0)

    def test_the_traffic_stays_as_it_is(self):
        before = state_of(self.traffic)
        lines = ("go 3", "close 1", "begin", f"mend 2 by {LIMIT}", "go 9", "commit", "begin", "close 0", "rollback")
        for line in lines:
            self.console.run(line)
            self.assertEqual(state_of(self.traffic), before)

    def test_a_change_of_the_traffic_does_not_reach_the_console(self):
        before = state_of(self.console.led)
        self.console.run("begin")
        self.traffic.close(1)
        self.traffic.go_to(2)
        self.traffic.mend(0, 5)
        self.assertEqual(state_of(self.console.led), before)
        self.console.run("rollback")
        self.assertEqual(state_of(self.console.led), before)
        self.assertEqual(self.traffic.changes, [("mend", 2, 0, 5)])

    def test_two_consoles(self):
        other = Console(self.traffic)
        self.console.run("close 1")
        other.run("begin")
        self.assertEqual((other.led.changes, self.console.depth), ([("mend", 4, 0, 1), ("close", 9, 2)], 0))
        third = Console(self.console.led)
        third.run("go 1")
        self.assertEqual(self.console.led.position, 6)

    def test_led_is_the_traffic_that_is_led(self):
        led = self.console.led
        self.console.run("begin")
        self.console.run("go 2")
        self.assertEqual(led.position, 2)
        led.close(1)
        self.assertEqual(self.console.run("lives"), "lives 1 0 9")
        self.console.run("rollback")
        self.assertIs(self.console.led, led)
        self.assertEqual((led.position, led.changes), (6, self.traffic.changes))


class AnswersTest(ConsoleCase):
    def test_line_by_line(self):
        lines = ("go 3", "lives", "x", "mend 0 by 2", "route 4", "close 5", "begin",
                 "go 9", "rollback", "lives", "rollback")
        wanted = ["position 3", "lives 0 6 9", "malformed", "mended 0 by 2", "route 0 1", "error bridge", "open 1",
                  "position 9", "open 0", "lives 2 6 9", "error transaction"]
        self.assertEqual(list(self.console.answers(*lines)), wanted)

    def test_no_lines(self):
        self.assertEqual(list(self.console.answers()), [])

    def test_each_line_is_run_when_its_answer_is_asked_for(self):
        found = self.console.answers("go 3", "go 4", "go 5")
        self.assertTrue(inspect.isgenerator(found))
        self.assertEqual(self.console.led.position, 0)
        self.assertEqual(next(found), "position 3")
        self.assertEqual(self.console.led.position, 3)
        self.console.run("go 9")
        self.assertEqual(next(found), "position 4")
        self.assertEqual(self.console.led.position, 4)


class Model:
    """A console that keeps a whole traffic for each open transaction."""

    def __init__(self, town, trips, changes):
        self.town = town
        self.trips = trips
        self.now = self.made(changes, 0)
        self.kept = []

    def made(self, changes, position):
        traffic = Traffic(self.town, self.trips)
        make_changes(traffic, changes)
        traffic.go_to(position)
        return traffic

    def run(self, words):
        try:
            return self.done(*words)
        except UnknownBridge:
            return "error bridge"
        except InvalidCount:
            return "error number"
        except InvalidLife:
            return "error life"

    def done(self, word, *numbers):
        if word == "begin":
            if len(self.kept) == 8:
                return "error number"
            self.kept.append(self.made(self.now.changes, self.now.position))
            return f"open {len(self.kept)}"
        if word in ("commit", "rollback"):
            if not self.kept:
                return "error transaction"
            kept = self.kept.pop()
            self.now = kept if word == "rollback" else self.now
            return f"open {len(self.kept)}"
        if word == "go":
            self.now.go_to(*numbers)
            return f"position {numbers[0]}"
        if word == "close":
            self.now.close(*numbers)
            return f"closed {numbers[0]}"
        if word == "mend":
            self.now.mend(*numbers)
            return f"mended {numbers[0]} by {numbers[1]}"
        if word == "lives":
            return "lives" + "".join([f" {life}" for life in self.now.lives])
        if word == "route":
            route = self.now.route_of(*numbers)
            return "fails" if route is None else "route" + "".join([f" {bridge}" for bridge in route])
        if word == "crossings":
            return f"crossings {crossings(self.now, *numbers)}"
        return f"failures {failures(self.now, *numbers)}"


class RandomTest(unittest.TestCase):
    def random_words(self, chance, size):
        number = chance.choice([chance.randint(0, 30), chance.randint(0, 30), chance.choice([LIMIT, LIMIT + 1])])
        bridge = chance.randint(0, size) if chance.random() < 0.2 else chance.randint(0, max(0, size - 1))
        return chance.choice([
            ("go", number), ("go", number), ("close", bridge), ("mend", bridge, number), ("mend", bridge, number),
            ("lives",), ("route", number), ("crossings", bridge, number), ("failures", number),
            ("begin",), ("begin",), ("commit",), ("rollback",),
        ])

    def test_random_lines(self):
        chance = random.Random(71)
        begun = set()
        for _ in range(60):
            town = random_town(chance)
            trips = random_trips(chance, town, 4)
            changes = random_changes(chance, town)
            model = Model(town, trips, changes)
            console = Console(model.made(changes, 0))
            for _ in range(60):
                words = self.random_words(chance, len(town.bridges))
                line = " ".join([str(word) for word in words])
                if words[0] == "mend":
                    line = f"mend {words[1]} by {words[2]}"
                with self.subTest(town=town.text, trips=trips, line=line):
                    answer = model.run(words)
                    self.assertEqual(console.run(line), answer)
                    self.assertEqual(console.depth, len(model.kept))
                    self.assertEqual(console.led.position, model.now.position)
                    self.assertEqual(console.led.changes, model.now.changes)
                    self.assertEqual(console.led.lives, model.now.lives)
                begun.add(answer.split(" ")[0] if not answer.startswith("error") else answer)
        wanted = {"position", "closed", "mended", "lives", "route", "fails", "crossings", "failures", "open"}
        self.assertLessEqual(wanted | {"error bridge", "error number", "error transaction"}, begun)


if __name__ == "__main__":
    unittest.main()
