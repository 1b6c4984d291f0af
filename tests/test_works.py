"""Point 14: works, their limits, and the changes that they plan."""

import inspect
import unittest

from wornbridges.errors import InvalidWork
from wornbridges.towns import Town
from wornbridges.traffic import Traffic
from wornbridges.works import Closing, Mending, Upkeep, Work

LIMIT = 10 ** 18


def told(work):
    """Return what a work tells."""
    return (work.position_planned, work.last_planned, work.bridge_planned, work.line, list(work.planned()))


class KindTest(unittest.TestCase):
    def test_words(self):
        self.assertEqual([kind.WORD for kind in (Work, Closing, Mending, Upkeep)], ["work", "close", "mend", "mend"])
        works = (Work(0, 0), Closing(0, 0), Mending(0, 0, 1), Upkeep(0, 0, 1, every=1, times=1))
        self.assertEqual([work.WORD for work in works], ["work", "close", "mend", "mend"])

    def test_greatest_numbers(self):
        self.assertEqual((Work.MAX_BRIDGE, Upkeep.MAX_TIMES), (23, 50))
        self.assertEqual((Closing.MAX_BRIDGE, Mending.MAX_BRIDGE, Upkeep.MAX_BRIDGE), (23, 23, 23))

    def test_which_is_a_kind_of_which(self):
        kinds = (Work, Closing, Mending, Upkeep)
        wanted = {(kind, kind) for kind in kinds}
        wanted |= {(Closing, Work), (Mending, Work), (Upkeep, Work), (Upkeep, Mending)}
        self.assertEqual({(one, other) for one in kinds for other in kinds if issubclass(one, other)}, wanted)


class TellingTest(unittest.TestCase):
    def test_a_work_of_no_kind(self):
        self.assertEqual(told(Work(5, 3)), (5, 5, 3, "at 5 work 3", []))

    def test_closing(self):
        self.assertEqual(told(Closing(5, 3)), (5, 5, 3, "at 5 close 3", [("close", 5, 3)]))
        self.assertEqual(told(Closing(0, 0)), (0, 0, 0, "at 0 close 0", [("close", 0, 0)]))
        wanted = (LIMIT, LIMIT, 23, f"at {LIMIT} close 23", [("close", LIMIT, 23)])
        self.assertEqual(told(Closing(LIMIT, 23)), wanted)

    def test_mending(self):
        self.assertEqual(told(Mending(5, 3, 100)), (5, 5, 3, "at 5 mend 3 by 100", [("mend", 5, 3, 100)]))
        self.assertEqual(told(Mending(0, 0, 1)), (0, 0, 0, "at 0 mend 0 by 1", [("mend", 0, 0, 1)]))
        wanted = (LIMIT, LIMIT, 23, f"at {LIMIT} mend 23 by {LIMIT}", [("mend", LIMIT, 23, LIMIT)])
        self.assertEqual(told(Mending(LIMIT, 23, LIMIT)), wanted)

    def test_upkeep(self):
        changes = [("mend", 5, 3, 100), ("mend", 25, 3, 100), ("mend", 45, 3, 100), ("mend", 65, 3, 100)]
        wanted = (5, 65, 3, "at 5 mend 3 by 100 every 20 times 4", changes)
        self.assertEqual(told(Upkeep(5, 3, 100, every=20, times=4)), wanted)
        self.assertEqual(told(Upkeep(5, 3, 100, times=4, every=20)), wanted)
        changes = [("mend", 0, 23, LIMIT), ("mend", LIMIT, 23, LIMIT)]
        wanted = (0, LIMIT, 23, f"at 0 mend 23 by {LIMIT} every {LIMIT} times 2", changes)
        self.assertEqual(told(Upkeep(0, 23, LIMIT, every=LIMIT, times=2)), wanted)

    def test_upkeep_once(self):
        wanted = (5, 5, 3, "at 5 mend 3 by 100 every 20 times 1", [("mend", 5, 3, 100)])
        self.assertEqual(told(Upkeep(5, 3, 100, every=20, times=1)), wanted)
        wanted = (LIMIT, LIMIT, 0, f"at {LIMIT} mend 0 by 1 every {LIMIT} times 1", [("mend", LIMIT, 0, 1)])
        self.assertEqual(told(Upkeep(LIMIT, 0, 1, every=LIMIT, times=1)), wanted)

    def test_upkeep_fifty_times(self):
        work = Upkeep(7, 1, 2, every=3, times=50)
        self.assertEqual(list(work.planned()), [("mend", 7 + 3 * turn, 1, 2) for turn in range(50)])
        self.assertEqual((work.position_planned, work.last_planned), (7, 154))

    def test_repeated_calls(self):
        for work in (Closing(5, 3), Mending(5, 3, 1), Upkeep(5, 3, 1, every=2, times=3)):
            before = told(work)
            list(work.planned()).clear()
            next(work.planned())
            self.assertEqual(told(work), before)

    def test_generators(self):
        for work in (Work(5, 3), Closing(5, 3), Mending(5, 3, 1), Upkeep(5, 3, 1, every=2, times=3)):
            self.assertTrue(inspect.isgenerator(work.planned()))

    def test_changes_are_those_of_traffic(self):
        traffic = Traffic(Town(2, ((0, 1, 1, 9),) * 4), ((0, 1, 1),))
        made = []
        for work in (Upkeep(1, 2, 3, every=4, times=2), Closing(9, 0), Mending(9, 3, LIMIT)):
            for change in work.planned():
                traffic.go_to(change[1])
                if change[0] == "close":
                    traffic.close(change[2])
                else:
                    traffic.mend(change[2], change[3])
                made.append(change)
        self.assertEqual(traffic.changes, made)


class LimitTest(unittest.TestCase):
    def makers(self):
        """Return functions that make a work of each class at a position and a bridge."""
        return (
            Work,
            Closing,
            lambda position, bridge: Mending(position, bridge, 1),
            lambda position, bridge: Upkeep(position, bridge, 1, every=1, times=1),
        )

    def check_wrong(self, make, *arguments, **more):
        with self.subTest(arguments=arguments, more=more):
            with self.assertRaises(InvalidWork) as caught:
                make(*arguments, **more)
            self.assertEqual(caught.exception.index, 0)

    def test_positions(self):
        for make in self.makers():
            for position in (0, 1, LIMIT - 1, LIMIT):
                self.assertEqual(make(position, 0).position_planned, position)
            for position in (-1, -LIMIT, LIMIT + 1, 2 * LIMIT):
                self.check_wrong(make, position, 0)

    def test_bridges(self):
        for make in self.makers():
            for bridge in range(24):
                self.assertEqual(make(0, bridge).bridge_planned, bridge)
            for bridge in (-1, 24, LIMIT):
                self.check_wrong(make, 0, bridge)

    def test_amounts(self):
        for amount in (1, 2, LIMIT - 1, LIMIT):
            self.assertEqual(list(Mending(3, 2, amount).planned()), [("mend", 3, 2, amount)])
            self.assertEqual(list(Upkeep(3, 2, amount, every=1, times=1).planned()), [("mend", 3, 2, amount)])
        for amount in (-1, 0, LIMIT + 1):
            self.check_wrong(Mending, 3, 2, amount)
            self.check_wrong(Upkeep, 3, 2, amount, every=1, times=1)

    def test_every(self):
        for every in (1, 2, LIMIT - 1, LIMIT):
            self.assertEqual(Upkeep(0, 2, 1, every=every, times=2).last_planned, every)
            self.assertEqual(Upkeep(9, 2, 1, every=every, times=1).last_planned, 9)
        for every in (-1, 0, LIMIT + 1):
            for times in (1, 2):
                self.check_wrong(Upkeep, 0, 2, 1, every=every, times=times)

    def test_times(self):
        for times in range(1, 51):
            self.assertEqual(Upkeep(0, 2, 1, every=5, times=times).last_planned, 5 * times - 5)
        for times in (-1, 0, 51, LIMIT):
            self.check_wrong(Upkeep, 0, 2, 1, every=1, times=times)

    def test_last_positions(self):
        for position, every, times in (
            (0, LIMIT, 2), (1, LIMIT - 1, 2), (LIMIT - 1, 1, 2), (LIMIT - 49, 1, 50), (LIMIT - 98, 2, 50),
            (LIMIT // 2, LIMIT // 4, 3),
        ):
            self.assertEqual(Upkeep(position, 0, 1, every=every, times=times).last_planned, LIMIT)
            self.check_wrong(Upkeep, position + 1, 0, 1, every=every, times=times)
            self.check_wrong(Upkeep, position, 0, 1, every=every + 1, times=times)
            self.check_wrong(Upkeep, position, 0, 1, every=every, times=times + 1)

    def test_every_and_times_by_keyword_alone(self):
        for arguments, more in (((1, 1), {}), ((1,), {"times": 1}), ((), {"every": 1}), ((), {"times": 1}), ((), {})):
            with self.assertRaises(TypeError):
                Upkeep(0, 0, 1, *arguments, **more)

    def test_positions_and_the_like_by_keyword_too(self):
        upkeep = Upkeep(position=1, bridge=2, amount=3, every=4, times=1)
        self.assertEqual(upkeep.line, "at 1 mend 2 by 3 every 4 times 1")
        self.assertEqual(Mending(position=1, bridge=2, amount=3).line, "at 1 mend 2 by 3")
        self.assertEqual(Closing(position=1, bridge=2).line, "at 1 close 2")


if __name__ == "__main__":
    unittest.main()
