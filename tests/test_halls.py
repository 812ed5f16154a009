"""Point [2] and the interface of processturns/halls.py."""

import copy
import unittest

from processturns import halls
from processturns.errors import BadHall
from processturns.halls import hall_hold, hall_locks, is_hall, later, whole_work, with_process
from values import GIVE_0, GIVE_1, NO_HALLS, NO_INTEGERS, NO_PROGRAMS, TAKE_0, TAKE_1

H = [(0, [("work", 2)]), (1, [("work", 1)])]
LOCKS = [
    (3, [TAKE_1, ("work", 4), GIVE_1]),
    (0, []),
    (99, [TAKE_0, GIVE_0, ("sleep", 9)]),
]
CALLS = [
    whole_work, hall_locks, hall_hold,
    lambda hall: with_process(hall, 0, []), lambda hall: later(hall, 0),
]


class HallTest(unittest.TestCase):
    def test_halls(self):
        for hall in [H, LOCKS, [(0, [])], [(99, [])], [(0, [])] * 4]:
            self.assertIs(is_hall(hall), True, hall)

    def test_1_to_4_processes(self):
        for many in range(7):
            self.assertIs(is_hall([(0, [("work", 1)])] * many), 1 <= many <= 4, many)

    def test_times_from_0_to_99(self):
        for time in [0, 1, 98, 99]:
            self.assertIs(is_hall([(0, []), (time, [])]), True, time)
        for time in [-1, 100]:
            self.assertIs(is_hall([(0, []), (time, [])]), False, time)

    def test_other_values_are_no_halls(self):
        for value in NO_HALLS:
            self.assertIs(is_hall(value), False, value)

    def test_functions_of_a_hall_raise_bad_hall(self):
        for at, call in enumerate(CALLS):
            for value in NO_HALLS:
                with self.subTest(at=at, value=value):
                    self.assertRaises(BadHall, call, value)

    def test_no_argument_is_changed(self):
        for at, call in enumerate([is_hall] + CALLS):
            for hall in [H, [(0, program) for _, program in LOCKS]]:
                given = copy.deepcopy(hall)
                call(given)
                self.assertEqual(given, hall, at)

    def test_all_are_defined_in_halls(self):
        for function in [is_hall, whole_work, hall_locks, hall_hold, with_process, later]:
            self.assertEqual(function.__module__, halls.__name__)


class SumsTest(unittest.TestCase):
    def test_whole_work(self):
        self.assertEqual(whole_work(H), 5)
        self.assertEqual(whole_work([(7, [])]), 1)
        self.assertEqual(whole_work(LOCKS), 12)

    def test_hall_locks(self):
        self.assertEqual(hall_locks(H), [])
        self.assertEqual(hall_locks(LOCKS), [0, 1])
        self.assertEqual(hall_locks(LOCKS[:1] * 2), [1])
        self.assertEqual(hall_locks(LOCKS[2:]), [0])
        hall_locks(LOCKS).append(2)
        self.assertEqual(hall_locks(LOCKS), [0, 1])

    def test_hall_hold(self):
        self.assertEqual(hall_hold(H), 0)
        self.assertEqual(hall_hold(LOCKS), 5)
        self.assertEqual(hall_hold(LOCKS[::-1]), 5)
        self.assertEqual(hall_hold(LOCKS[1:]), 1)


class WithProcessTest(unittest.TestCase):
    def test_the_process_stands_at_the_end(self):
        self.assertEqual(with_process(H, 0, [("sleep", 3)]), H + [(0, [("sleep", 3)])])
        self.assertEqual(with_process(H, 99, []), H + [(99, [])])

    def test_at_most_4_processes(self):
        self.assertEqual(with_process([(0, [])] * 3, 1, []), [(0, [])] * 3 + [(1, [])])
        self.assertRaises(BadHall, with_process, [(0, [])] * 4, 1, [])

    def test_times_that_are_not_valid(self):
        for comes in [-1, 100] + NO_INTEGERS:
            self.assertRaises(BadHall, with_process, H, comes, [])

    def test_programs_that_are_not_valid(self):
        for program in NO_PROGRAMS:
            self.assertRaises(BadHall, with_process, H, 0, program)

    def test_the_hall_is_new(self):
        hall, program = copy.deepcopy(H), [("work", 5)]
        longer = with_process(hall, 4, program)
        self.assertEqual((hall, program), (H, [("work", 5)]))
        longer[0][1].append(("work", 1))
        longer[2][1].append(("work", 1))
        longer.append(None)
        self.assertEqual((hall, program), (H, [("work", 5)]))


class LaterTest(unittest.TestCase):
    def test_all_come_later(self):
        self.assertEqual(later(H, 7), [(7, [("work", 2)]), (8, [("work", 1)])])
        self.assertEqual(later(H, 0), H)

    def test_up_to_the_time_99(self):
        self.assertEqual(later(H, 98)[1][0], 99)
        self.assertRaises(BadHall, later, H, 99)
        self.assertEqual(later([(0, [])], 99), [(99, [])])
        self.assertRaises(BadHall, later, [(99, [])], 1)
        self.assertRaises(BadHall, later, [(99, []), (0, [])], 1)

    def test_numbers_that_are_not_valid(self):
        for by in [-1, 100] + NO_INTEGERS:
            self.assertRaises(BadHall, later, H, by)
        # With this number the result would be valid.
        self.assertRaises(BadHall, later, [(5, [])], -1)

    def test_the_hall_is_new(self):
        hall = copy.deepcopy(H)
        for by in [0, 3]:
            moved = later(hall, by)
            moved[0][1].append(("work", 1))
            moved.append(None)
            self.assertEqual(hall, H)


if __name__ == "__main__":
    unittest.main()
