"""The interface of processturns/running.py, and what is checked of a run."""

import copy
import unittest

from processturns import running
from processturns.errors import BadHall, BadNumber, BadScheduler
from processturns.running import ends, log, run, status_rows
from values import GIVE_0, H, NO_HALLS, NO_SCHEDULERS, NO_UNITS, TAKE_0, TAKE_1

FIRST = ("first",)
ALL = [run, log, status_rows, ends]
# Each process takes the lock that the other one holds.
STUCK = [(0, [TAKE_0, TAKE_1, ("give", 0), ("give", 1)]), (1, [TAKE_1, TAKE_0, ("give", 1), ("give", 0)])]
LONG = [(0, [("work", 99)] * 3)]


class RunTest(unittest.TestCase):
    def test_examples_of_the_document(self):
        self.assertEqual(run(FIRST, H, 9), [0, 0, 0, 1, 1])

    def test_up_to_so_many_units(self):
        for most in range(6):
            self.assertEqual(run(FIRST, H, most), [0, 0, 0, 1, 1][:most])
        self.assertEqual(run(FIRST, H, 200), [0, 0, 0, 1, 1])
        self.assertEqual(run(FIRST, LONG, 200), [0] * 200)
        self.assertEqual(run(FIRST, LONG, 199), [0] * 199)

    def test_until_nobody_comes_any_more(self):
        self.assertEqual(run(FIRST, [(3, [])], 9), [None, None, None, 0])
        self.assertEqual(run(FIRST, [(3, [])], 2), [None, None])
        self.assertEqual(run(FIRST, [(0, [("sleep", 3)])], 9), [0, None, None, 0])
        self.assertEqual(run(FIRST, [(99, [("sleep", 99)])], 200), [None] * 99 + [0] + [None] * 98 + [0])
        self.assertEqual(run(("last",), STUCK, 9), [0, 1, 1, 0])
        self.assertEqual(run(("last",), STUCK + [(6, [])], 9), [0, 1, 1, 0, None, None, 2])

    def test_1_and_4_processes(self):
        self.assertEqual(run(("due", (4,)), [(1, [("work", 1)])], 9), [None, 0, 0])
        four = [(0, [("work", 1)])] * 4
        self.assertEqual(run(("order", (3, 1, 0, 2), 1, ("plain",)), four, 9), [3, 3, 1, 1, 0, 0, 2, 2])
        self.assertEqual(run(("rounds", 1, 1), four, 9), [0, 1, 2, 3, 0, 1, 2, 3])

    def test_runs_are_told_alike(self):
        """What log, status_rows and run tell fits together."""
        hall = STUCK + [(3, [("work", 2), ("sleep", 4)])]
        for most in [0, 1, 5, 30]:
            told = log(("last",), hall, most)
            self.assertEqual([who for who, _ in told], run(("last",), hall, most))
            self.assertEqual(len(status_rows(("last",), hall, most)), len(told))


class LogTest(unittest.TestCase):
    def test_what_came_of_it(self):
        hall = [(1, [TAKE_0, ("work", 2), GIVE_0, ("sleep", 2)]), (2, [TAKE_0, GIVE_0])]
        self.assertEqual(log(("last",), hall, 20), [
            (None, "none"), (0, "take"), (1, "ask"), (0, "work"), (0, "work"), (0, "give"),
            (1, "take"), (1, "give"), (1, "leave"), (0, "leave"), (None, "none"), (0, "leave"),
        ])

    def test_no_units(self):
        self.assertEqual(log(FIRST, H, 0), [])
        self.assertEqual(log(FIRST, H, 1), [(0, "work")])


class StatusRowsTest(unittest.TestCase):
    def test_words_as_it_was_chosen(self):
        self.assertEqual(status_rows(FIRST, H, 9), [
            ["ready", "away"], ["ready", "ready"], ["ready", "ready"], ["away", "ready"], ["away", "ready"],
        ])
        self.assertEqual(status_rows(("last",), STUCK + [(5, [])], 9), [
            ["ready", "away", "away"], ["ready", "ready", "away"], ["ready", "ready", "away"],
            ["ready", "waits", "away"], ["waits", "waits", "away"], ["waits", "waits", "ready"],
        ])

    def test_no_units(self):
        self.assertEqual(status_rows(FIRST, H, 0), [])


class EndsTest(unittest.TestCase):
    def test_open_and_ended(self):
        for most in range(5):
            self.assertEqual(ends(FIRST, H, most), "open", most)
        for most in [5, 6, 200]:
            self.assertEqual(ends(FIRST, H, most), "ended", most)
        self.assertEqual(ends(FIRST, LONG, 200), "open")

    def test_open_while_somebody_comes_yet(self):
        self.assertEqual(ends(FIRST, [(3, [])], 3), "open")
        self.assertEqual(ends(FIRST, [(3, [])], 4), "ended")
        self.assertEqual(ends(FIRST, [(0, [("sleep", 3)])], 1), "open")
        self.assertEqual(ends(FIRST, [(0, [("sleep", 3)])], 3), "open")
        self.assertEqual(ends(FIRST, [(0, [("sleep", 3)])], 4), "ended")

    def test_stuck(self):
        for most, word in [(0, "open"), (3, "open"), (4, "stuck"), (5, "stuck"), (200, "stuck")]:
            self.assertEqual(ends(("last",), STUCK, most), word, most)
        self.assertEqual(ends(FIRST, STUCK, 200), "ended")

    def test_stuck_only_if_nobody_comes_any_more(self):
        hall = STUCK + [(6, [])]
        for most, word in [(4, "open"), (6, "open"), (7, "stuck")]:
            self.assertEqual(ends(("last",), hall, most), word, most)


class ChecksTest(unittest.TestCase):
    def test_halls(self):
        for function in ALL:
            for hall in NO_HALLS:
                self.assertRaises(BadHall, function, FIRST, hall, 9)

    def test_schedulers(self):
        for function in ALL:
            for scheduler in NO_SCHEDULERS:
                self.assertRaises(BadScheduler, function, scheduler, H, 9)

    def test_a_scheduler_is_for_the_size_of_the_hall(self):
        for function in ALL:
            for size in [1, 2, 3, 4]:
                hall = [(0, [])] * size
                for other in [1, 2, 3, 4]:
                    if size == other:
                        function(("due", (1,) * other), hall, 9)
                    else:
                        self.assertRaises(BadScheduler, function, ("due", (1,) * other), hall, 9)

    def test_units(self):
        for function in ALL:
            for most in NO_UNITS:
                self.assertRaises(BadNumber, function, FIRST, H, most)
            for most in [0, 200]:
                function(FIRST, H, most)

    def test_the_hall_first_then_the_scheduler(self):
        for function in ALL:
            for scheduler, most in [(None, 9), (FIRST, None), ((), -1), (("due", (1,)), 201)]:
                self.assertRaises(BadHall, function, scheduler, [], most)
                self.assertRaises(BadHall, function, scheduler, [(0, [TAKE_0])], most)
            for most in NO_UNITS:
                self.assertRaises(BadScheduler, function, None, H, most)
                self.assertRaises(BadScheduler, function, ("due", (1,)), H, most)

    def test_no_argument_is_changed(self):
        hall = STUCK + [(3, [("work", 2), ("sleep", 4)])]
        given = copy.deepcopy(hall)
        for function in ALL:
            function(("last",), given, 30)
            self.assertEqual(given, hall, function.__name__)

    def test_returned_lists_are_new(self):
        for function in [run, log, status_rows]:
            expected = function(("last",), H, 9)
            given = function(("last",), H, 9)
            given.append("more")
            if function == status_rows:
                given[0].append("more")
            self.assertEqual(function(("last",), H, 9), expected, function.__name__)
        rows = status_rows(FIRST, H, 9)
        rows[1].append("more")
        self.assertEqual(rows[2], ["ready", "ready"])

    def test_all_are_defined_in_running(self):
        for function in ALL:
            self.assertEqual(function.__module__, running.__name__)


if __name__ == "__main__":
    unittest.main()
