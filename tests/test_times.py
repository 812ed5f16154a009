"""The interface of processturns/times.py."""

import copy
import unittest

from processturns import times
from processturns.errors import BadHall, BadNumber, BadScheduler, NotFound
from processturns.times import (
    asked_in_vain, finish, idle_units, longest_stretch, served, switches, waits,
)
from values import GIVE_0, GIVE_1, H, NO_HALLS, NO_INTEGERS, NO_SCHEDULERS, NO_UNITS, TAKE_0, TAKE_1

FIRST = ("first",)
LAST = ("last",)
OF_ALL = [served, switches, idle_units, asked_in_vain]
OF_ONE = [waits, longest_stretch, finish]

# Under LAST: (0, take), (1, ask), (0, work), (0, work), (0, give), (1, take), (1, give), (1, leave), (0, leave).
LOCKED = [(0, [TAKE_0, ("work", 2), GIVE_0]), (1, [TAKE_0, GIVE_0])]
# Under LAST: nobody in units 0, 3 and 4; 0 sleeps in unit 2 and comes in unit 5.
SLEEPS = [(1, [("work", 1), ("sleep", 3), ("work", 1)])]
STUCK = [(0, [TAKE_0, TAKE_1, GIVE_0, GIVE_1]), (1, [TAKE_1, TAKE_0, GIVE_1, GIVE_0]), (6, [("work", 1)])]


class ServedTest(unittest.TestCase):
    def test_units_that_each_process_ran(self):
        self.assertEqual(served(FIRST, H, 9), [3, 2])
        self.assertEqual(served(LAST, LOCKED, 20), [5, 4])
        self.assertEqual(served(LAST, SLEEPS, 20), [4])
        self.assertEqual(served(LAST, STUCK, 20), [2, 2, 2])

    def test_up_to_so_many_units(self):
        self.assertEqual(served(FIRST, H, 0), [0, 0])
        self.assertEqual(served(FIRST, H, 4), [3, 1])
        self.assertEqual(served(FIRST, [(0, [("work", 99)] * 9)] * 4, 200), [200, 0, 0, 0])


class WaitsTest(unittest.TestCase):
    def test_example_of_the_document(self):
        self.assertEqual(waits(FIRST, H, 9, 1), (2, 0))
        self.assertEqual(waits(FIRST, H, 9, 0), (0, 0))

    def test_ready_as_it_was_chosen_and_for_a_lock(self):
        self.assertEqual(waits(LAST, LOCKED, 20, 0), (4, 0))
        # 1 waits in units 2 to 4; in unit 1, in which it asks in vain, it runs.
        self.assertEqual(waits(LAST, LOCKED, 20, 1), (0, 3))
        self.assertEqual(waits(LAST, LOCKED, 3, 1), (0, 1))
        self.assertEqual(waits(LAST, LOCKED, 2, 1), (0, 0))
        self.assertEqual(waits(FIRST, LOCKED, 20, 1), (4, 0))

    def test_away_is_not_waiting(self):
        self.assertEqual(waits(LAST, SLEEPS, 20, 0), (0, 0))

    def test_units_in_which_nobody_runs_count_for_a_lock(self):
        self.assertEqual(waits(LAST, STUCK, 20, 0), (2, 4))
        self.assertEqual(waits(LAST, STUCK, 20, 1), (0, 5))
        self.assertEqual(waits(LAST, STUCK, 4, 1), (0, 1))


class LongestStretchTest(unittest.TestCase):
    def test_ready_or_waiting_without_running(self):
        self.assertEqual(longest_stretch(FIRST, H, 9, 0), 0)
        self.assertEqual(longest_stretch(FIRST, H, 9, 1), 2)
        self.assertEqual(longest_stretch(LAST, LOCKED, 20, 0), 3)
        self.assertEqual(longest_stretch(LAST, LOCKED, 20, 1), 3)

    def test_waiting_and_being_ready_count_together(self):
        # 1 waits in units 2 to 4, and is ready in unit 5 while 2 runs.
        hall = LOCKED + [(5, [])]
        self.assertEqual(waits(LAST, hall, 20, 1), (1, 3))
        self.assertEqual(longest_stretch(LAST, hall, 20, 1), 4)

    def test_one_after_the_other(self):
        # 0 is ready and does not run in units 1, 2, 4, 5 and 6.
        hall = [(0, [("work", 9)]), (1, [("work", 1)]), (4, [("work", 2)])]
        self.assertEqual(longest_stretch(LAST, hall, 3, 0), 2)
        self.assertEqual(longest_stretch(LAST, hall, 20, 0), 3)
        self.assertEqual(longest_stretch(LAST, [(0, [("work", 9)]), (1, [("work", 2)]), (5, [])], 20, 0), 3)

    def test_being_away_ends_it(self):
        self.assertEqual(longest_stretch(LAST, SLEEPS, 20, 0), 0)
        # 1 waits one unit, sleeps, and waits one unit again.
        hall = [(0, [("work", 1), ("sleep", 2)]), (1, [("sleep", 1), ("work", 1)])]
        self.assertEqual(waits(FIRST, hall, 20, 1), (2, 0))
        self.assertEqual(longest_stretch(FIRST, hall, 20, 1), 1)

    def test_nobody_runs(self):
        self.assertEqual(longest_stretch(LAST, STUCK, 20, 0), 4)
        self.assertEqual(longest_stretch(LAST, STUCK, 20, 1), 5)
        self.assertEqual(longest_stretch(LAST, STUCK, 0, 1), 0)


class FinishTest(unittest.TestCase):
    def test_the_unit_behind_that_of_the_end(self):
        self.assertEqual(finish(FIRST, H, 9, 0), 3)
        self.assertEqual(finish(FIRST, H, 9, 1), 5)
        self.assertEqual(finish(LAST, H, 9, 1), 3)
        self.assertEqual(finish(FIRST, [(99, [])], 200, 0), 100)

    def test_a_sleep_is_no_end(self):
        self.assertEqual(finish(LAST, SLEEPS, 20, 0), 7)
        self.assertRaises(NotFound, finish, LAST, SLEEPS, 6, 0)
        self.assertRaises(NotFound, finish, LAST, [(0, [("sleep", 1)])], 1, 0)
        self.assertEqual(finish(LAST, [(0, [("sleep", 1)])], 2, 0), 2)

    def test_not_in_so_many_units(self):
        self.assertRaises(NotFound, finish, FIRST, H, 0, 0)
        self.assertRaises(NotFound, finish, FIRST, H, 2, 0)
        self.assertEqual(finish(FIRST, H, 3, 0), 3)
        self.assertRaises(NotFound, finish, FIRST, H, 4, 1)
        self.assertRaises(NotFound, finish, FIRST, [(0, [("work", 99)] * 3)], 200, 0)

    def test_stuck(self):
        self.assertRaises(NotFound, finish, LAST, STUCK, 200, 0)
        self.assertRaises(NotFound, finish, LAST, STUCK, 200, 1)
        self.assertEqual(finish(LAST, STUCK, 200, 2), 8)


class SwitchesTest(unittest.TestCase):
    def test_another_process_than_before(self):
        self.assertEqual(switches(FIRST, H, 9), 1)
        self.assertEqual(switches(FIRST, H, 3), 0)
        self.assertEqual(switches(FIRST, H, 0), 0)
        self.assertEqual(switches(LAST, H, 9), 2)
        self.assertEqual(switches(("rounds", 1, 0), [(0, [("work", 2)])] * 2, 9), 5)

    def test_units_in_which_nobody_runs_are_left_out(self):
        self.assertEqual(switches(LAST, SLEEPS, 20), 0)
        self.assertEqual(switches(FIRST, [(1, []), (3, [])], 9), 1)
        self.assertEqual(switches(LAST, STUCK, 20), 3)


class IdleUnitsTest(unittest.TestCase):
    def test_units_in_which_nobody_ran(self):
        self.assertEqual(idle_units(FIRST, H, 9), 0)
        self.assertEqual(idle_units(LAST, SLEEPS, 20), 3)
        self.assertEqual(idle_units(LAST, SLEEPS, 4), 2)
        self.assertEqual(idle_units(LAST, SLEEPS, 0), 0)
        self.assertEqual(idle_units(LAST, STUCK, 20), 2)

    def test_not_behind_the_end(self):
        self.assertEqual(idle_units(FIRST, [(0, [])], 200), 0)
        self.assertEqual(idle_units(FIRST, [(99, [])], 200), 99)


class AskedInVainTest(unittest.TestCase):
    def test_how_often(self):
        self.assertEqual(asked_in_vain(LAST, LOCKED, 20), [0, 1])
        self.assertEqual(asked_in_vain(LAST, LOCKED, 1), [0, 0])
        self.assertEqual(asked_in_vain(FIRST, LOCKED, 20), [0, 0])
        self.assertEqual(asked_in_vain(LAST, STUCK, 20), [1, 1, 0])

    def test_the_same_taking_again(self):
        hall = [(0, [TAKE_0, ("work", 2), GIVE_0]), (1, [TAKE_0, ("work", 1), GIVE_0]), (1, [TAKE_0, GIVE_0])]
        self.assertEqual(asked_in_vain(("rounds", 1, 0), hall, 30), [0, 1, 2])


class ChecksTest(unittest.TestCase):
    def calls(self):
        for function in OF_ALL:
            yield function.__name__, function
        for function in OF_ONE:
            yield function.__name__, lambda *told, function=function: function(*told, 0)

    def test_halls(self):
        for name, call in self.calls():
            for hall in NO_HALLS:
                self.assertRaises(BadHall, call, FIRST, hall, 9)

    def test_schedulers(self):
        for name, call in self.calls():
            for scheduler in NO_SCHEDULERS:
                self.assertRaises(BadScheduler, call, scheduler, H, 9)

    def test_units(self):
        for name, call in self.calls():
            for most in NO_UNITS:
                self.assertRaises(BadNumber, call, FIRST, H, most)
            call(FIRST, H, 200)
        for function in OF_ALL + [lambda *told: waits(*told, 0), lambda *told: longest_stretch(*told, 0)]:
            function(FIRST, H, 0)

    def test_processes(self):
        for function in OF_ONE:
            for slot in [-1, 2, 3] + NO_INTEGERS:
                self.assertRaises(BadNumber, function, FIRST, H, 9, slot)
            function(FIRST, H, 9, 0)
            function(FIRST, H, 9, 1)
            self.assertRaises(BadNumber, function, FIRST, [(0, [])], 9, 1)
            function(FIRST, [(0, [])] * 4, 9, 3)
            self.assertRaises(BadNumber, function, FIRST, [(0, [])] * 4, 9, 4)

    def test_the_first_of_several_errors(self):
        for name, call in self.calls():
            self.assertRaises(BadHall, call, None, [], None)
            self.assertRaises(BadHall, call, ("due", (1,)), [(0, [TAKE_0])], 9)
            self.assertRaises(BadHall, call, FIRST, None, -1)
            self.assertRaises(BadScheduler, call, ("due", (1,)), H, 201)
        for function in OF_ONE:
            self.assertRaises(BadHall, function, FIRST, [], 9, 7)
            self.assertRaises(BadScheduler, function, None, H, 9, 7)
            self.assertRaises(BadNumber, function, FIRST, H, None, 7)
        # A process that is not there goes before one that does not end.
        self.assertRaises(BadNumber, finish, FIRST, H, 0, 2)

    def test_no_argument_is_changed(self):
        for name, call in self.calls():
            given = copy.deepcopy(LOCKED)
            call(LAST, given, 20)
            self.assertEqual(given, LOCKED, name)

    def test_returned_lists_are_new(self):
        for function in [served, asked_in_vain]:
            expected = function(LAST, LOCKED, 20)
            function(LAST, LOCKED, 20).append(None)
            self.assertEqual(function(LAST, LOCKED, 20), expected)

    def test_all_are_defined_in_times(self):
        for function in OF_ALL + OF_ONE:
            self.assertEqual(function.__module__, times.__name__)


if __name__ == "__main__":
    unittest.main()
