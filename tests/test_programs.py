"""Point [1] and the interface of processturns/programs.py."""

import copy
import unittest

from processturns import programs
from processturns.errors import BadProgram
from processturns.programs import (
    is_deed, is_program, length, locks_used, longest_hold, nested_pairs, plainest,
)
from values import GIVE_0, GIVE_1, NO_DEEDS, NO_PROGRAMS, TAKE_0, TAKE_1

OF_A_PROGRAM = [length, locks_used, longest_hold, nested_pairs, plainest]
NESTED = [TAKE_0, ("work", 3), TAKE_1, GIVE_0, ("work", 2), GIVE_1, ("sleep", 4)]


def works(*numbers):
    return [("work", number) for number in numbers]


class DeedTest(unittest.TestCase):
    def test_deeds_with_their_least_and_greatest_numbers(self):
        for deed in [("work", 1), ("work", 99), ("sleep", 1), ("sleep", 99)]:
            self.assertIs(is_deed(deed), True, deed)
        for deed in [TAKE_0, TAKE_1, GIVE_0, GIVE_1]:
            self.assertIs(is_deed(deed), True, deed)

    def test_other_values_are_no_deeds(self):
        for value in NO_DEEDS:
            self.assertIs(is_deed(value), False, value)


class ProgramTest(unittest.TestCase):
    def test_programs(self):
        for program in [
            [], works(1), [("sleep", 1)], [TAKE_0, GIVE_0], [TAKE_1, GIVE_1], NESTED,
            [TAKE_0, TAKE_1, GIVE_0, GIVE_1], [TAKE_0, TAKE_1, GIVE_1, GIVE_0],
            [TAKE_0, GIVE_0, TAKE_0, GIVE_0], [("sleep", 99), TAKE_0, GIVE_0, ("sleep", 1)],
        ]:
            self.assertIs(is_program(program), True, program)

    def test_at_most_40_deeds(self):
        self.assertIs(is_program(works(*[1] * 40)), True)
        self.assertIs(is_program(works(*[1] * 41)), False)
        self.assertIs(is_program([TAKE_0, GIVE_0] * 20), True)
        self.assertIs(is_program([TAKE_0, GIVE_0] * 20 + works(1)), False)

    def test_other_values_are_no_programs(self):
        for value in NO_PROGRAMS:
            self.assertIs(is_program(value), False, value)

    def test_functions_of_a_program_raise_bad_program(self):
        for function in OF_A_PROGRAM:
            for value in NO_PROGRAMS:
                with self.subTest(function=function.__name__, value=value):
                    self.assertRaises(BadProgram, function, value)

    def test_no_argument_is_changed(self):
        for function in [is_program] + OF_A_PROGRAM:
            for program in [NESTED, works(1, 2, 98, 3)]:
                given = copy.deepcopy(program)
                function(given)
                self.assertEqual(given, program, function.__name__)

    def test_returned_lists_are_new(self):
        program = list(NESTED)
        for function in [locks_used, nested_pairs, plainest]:
            function(program).append("more")
            self.assertEqual(program, NESTED, function.__name__)
            self.assertNotIn("more", function(program), function.__name__)

    def test_all_are_defined_in_programs(self):
        for function in [is_deed, is_program] + OF_A_PROGRAM:
            self.assertEqual(function.__module__, programs.__name__)


class LengthTest(unittest.TestCase):
    def test_the_end_needs_a_unit(self):
        self.assertEqual(length([]), 1)

    def test_a_work_needs_its_units(self):
        self.assertEqual(length(works(1)), 2)
        self.assertEqual(length(works(99)), 100)
        self.assertEqual(length(works(*[99] * 40)), 3961)

    def test_each_other_deed_needs_one_unit(self):
        self.assertEqual(length([("sleep", 99)]), 2)
        self.assertEqual(length([TAKE_1, GIVE_1]), 3)
        self.assertEqual(length(NESTED), 11)


class LocksUsedTest(unittest.TestCase):
    def test_locks_ascend_and_stand_once(self):
        self.assertEqual(locks_used([]), [])
        self.assertEqual(locks_used(works(1)), [])
        self.assertEqual(locks_used([TAKE_0, GIVE_0]), [0])
        self.assertEqual(locks_used([TAKE_1, GIVE_1, TAKE_1, GIVE_1]), [1])
        self.assertEqual(locks_used([TAKE_1, GIVE_1, TAKE_0, GIVE_0]), [0, 1])


class LongestHoldTest(unittest.TestCase):
    def test_example_of_the_document(self):
        self.assertEqual(longest_hold([TAKE_0, ("work", 2), GIVE_0]), 3)

    def test_without_locks(self):
        self.assertEqual(longest_hold([]), 0)
        self.assertEqual(longest_hold(works(9) + [("sleep", 9)]), 0)

    def test_the_giving_is_included(self):
        self.assertEqual(longest_hold([TAKE_1, GIVE_1]), 1)

    def test_the_greatest_of_several(self):
        long, short = [TAKE_0, ("work", 7), GIVE_0], [TAKE_0, ("work", 2), GIVE_0]
        self.assertEqual(longest_hold(long + works(30) + short), 8)
        self.assertEqual(longest_hold(short + works(30) + long), 8)

    def test_each_lock_has_its_own(self):
        self.assertEqual(longest_hold(NESTED), 5)
        self.assertEqual(longest_hold([TAKE_1, TAKE_0, ("work", 9), GIVE_1, GIVE_0]), 11)
        self.assertEqual(longest_hold([TAKE_0, TAKE_1, ("work", 9), GIVE_1, GIVE_0]), 12)
        self.assertEqual(longest_hold([TAKE_0, TAKE_1, GIVE_0, ("work", 9), GIVE_1]), 11)


class NestedPairsTest(unittest.TestCase):
    def test_no_pairs(self):
        self.assertEqual(nested_pairs([]), [])
        self.assertEqual(nested_pairs([TAKE_0, GIVE_0, TAKE_1, GIVE_1]), [])

    def test_a_is_held_as_b_is_taken(self):
        self.assertEqual(nested_pairs([TAKE_0, TAKE_1, GIVE_1, GIVE_0]), [(0, 1)])
        self.assertEqual(nested_pairs([TAKE_1, TAKE_0, GIVE_1, GIVE_0]), [(1, 0)])
        self.assertEqual(nested_pairs([TAKE_1, works(5)[0], TAKE_0, GIVE_0, GIVE_1]), [(1, 0)])

    def test_pairs_ascend_and_stand_once(self):
        up, down = [TAKE_0, TAKE_1, GIVE_1, GIVE_0], [TAKE_1, TAKE_0, GIVE_1, GIVE_0]
        self.assertEqual(nested_pairs(up + up), [(0, 1)])
        self.assertEqual(nested_pairs(down + up + down), [(0, 1), (1, 0)])

    def test_a_lock_that_is_taken_again(self):
        self.assertEqual(
            nested_pairs([TAKE_0, TAKE_1, GIVE_0, TAKE_0, GIVE_0, GIVE_1]), [(0, 1), (1, 0)]
        )


class PlainestTest(unittest.TestCase):
    def test_works_are_put_together(self):
        self.assertEqual(plainest(works(1, 2)), works(3))
        self.assertEqual(plainest(works(*[2] * 40)), works(80))

    def test_99_units_and_100(self):
        self.assertEqual(plainest(works(1, 98)), works(99))
        self.assertEqual(plainest(works(98, 1)), works(99))
        self.assertEqual(plainest(works(1, 99)), works(1, 99))
        self.assertEqual(plainest(works(50, 50)), works(50, 50))

    def test_from_the_left(self):
        self.assertEqual(plainest(works(60, 30, 9, 50)), works(99, 50))
        self.assertEqual(plainest(works(60, 50, 40)), works(60, 90))
        self.assertEqual(plainest(works(99, 1, 1)), works(99, 2))

    def test_only_works_that_follow_each_other(self):
        program = [("work", 1), TAKE_0, ("work", 2), ("work", 3), GIVE_0, ("work", 4)]
        self.assertEqual(
            plainest(program), [("work", 1), TAKE_0, ("work", 5), GIVE_0, ("work", 4)]
        )
        sleeps = [("sleep", 1), ("sleep", 2), ("work", 1), ("sleep", 1), ("work", 1)]
        self.assertEqual(plainest(sleeps), sleeps)

    def test_a_new_list_also_where_nothing_changes(self):
        for program in [[], works(1)]:
            self.assertEqual(plainest(program), program)
            self.assertIsNot(plainest(program), program)


if __name__ == "__main__":
    unittest.main()
