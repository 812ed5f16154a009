"""The interface of processturns/repairs.py."""

import unittest
from unittest import mock

from counted import PARTS, hall_by_number, schedulers_of, some
from plain_halls import all_orders
from processturns import repairs
from processturns.deadlocks import can_deadlock
from processturns.errors import BadHall, BadNumber, NotFound
from processturns.halls import is_hall
from processturns.programs import length, locks_used
from processturns.repairs import least_moves, mended_halls, moved_ahead
from processturns.running import ends
from refusals import raises_in_order
from values import GIVE_0, GIVE_1, H, NO_HALLS, NO_INTEGERS, TAKE_0, TAKE_1

W1, W2 = ("work", 1), ("work", 2)
UP = [TAKE_0, TAKE_1, GIVE_1, GIVE_0]
DOWN = [TAKE_1, TAKE_0, GIVE_0, GIVE_1]
AGAIN = [TAKE_1, TAKE_0, GIVE_1, TAKE_1, GIVE_0, GIVE_1]
BOTH = [TAKE_0, TAKE_1, GIVE_0, TAKE_0, GIVE_1, GIVE_0]
WORKS_DOWN = [TAKE_1, W2, W1, TAKE_0, GIVE_0, GIVE_1]


def hall(*programs):
    return [(slot, list(program)) for slot, program in enumerate(programs)]


def plain_moves(given):
    """All halls after one move: a taking changes places with the work or the taking before it."""
    found = []
    for slot, (comes, program) in enumerate(given):
        for place in range(1, len(program)):
            if program[place][0] == "take" and program[place - 1][0] not in ("sleep", "give"):
                moved = list(program)
                moved[place - 1], moved[place] = moved[place], moved[place - 1]
                found.append(given[:slot] + [(comes, moved)] + given[slot + 1:])
    return found


def plain_mended(given, most=6000):
    """The least number of moves and the halls, by trying all of them; None for too many or none."""
    seen, level, moves = [given], [given], 0
    while level:
        free = [one for one in level if all(done for _, _, done in all_orders(one))]
        if free:
            return moves, sorted(free)
        level = [one for row in map(plain_moves, level) for one in row]
        level = [one for at, one in enumerate(level) if one not in seen and one not in level[:at]]
        seen += level
        moves += 1
        if len(seen) > most:
            return None
    return None


class MovedAheadTest(unittest.TestCase):
    def test_ahead_of_work_and_of_another_taking(self):
        given = hall(H[0][1], WORKS_DOWN)
        self.assertEqual(moved_ahead(given, 1, 3), hall(H[0][1], [TAKE_1, W2, TAKE_0, W1, GIVE_0, GIVE_1]))
        self.assertEqual(moved_ahead(hall(UP), 0, 1), hall([TAKE_1, TAKE_0, GIVE_1, GIVE_0]))
        self.assertEqual(moved_ahead(hall([("work", 99), TAKE_1, GIVE_1]), 0, 1), hall([TAKE_1, ("work", 99), GIVE_1]))

    def test_no_such_move(self):
        given = hall([TAKE_0, GIVE_0, TAKE_1, GIVE_1, ("sleep", 1), TAKE_0, W1, GIVE_0], [W1, TAKE_1, GIVE_1])
        for place in [-9, -1, 0, 1, 2, 3, 4, 5, 6, 7, 8, 9]:
            self.assertRaises(BadNumber, moved_ahead, given, 0, place)
        for place in [0, 2, 3, -2]:
            self.assertRaises(BadNumber, moved_ahead, given, 1, place)
        self.assertEqual(moved_ahead(given, 1, 1)[1], (1, [TAKE_1, W1, GIVE_1]))
        self.assertRaises(BadNumber, moved_ahead, hall([]), 0, 0)
        self.assertRaises(BadNumber, moved_ahead, hall([]), 0, 1)

    def test_all_moves_give_halls_with_the_same_deeds(self):
        for size in (1, 2, 3, 4):
            for number in range(60):
                given = hall_by_number(number, size)
                found = []
                for slot, (_, program) in enumerate(given):
                    for place in range(-1, len(program) + 1):
                        try:
                            found.append(moved_ahead(given, slot, place))
                        except BadNumber:
                            pass
                self.assertEqual(found, plain_moves(given))
                for moved in found:
                    self.assertIs(is_hall(moved), True)
                    for (_, before), (_, after) in zip(given, moved):
                        self.assertEqual(length(after), length(before))
                        self.assertEqual(locks_used(after), locks_used(before))

    def test_arguments(self):
        raises_in_order(self, moved_ahead, (hall(UP, UP), 1, 1), [
            (0, NO_HALLS, BadHall), (1, [-1, 2, 4] + NO_INTEGERS, BadNumber), (2, [-1, 0, 2, 4] + NO_INTEGERS, BadNumber),
        ])

    def test_the_hall_is_new(self):
        given = hall(UP, WORKS_DOWN)
        moved = moved_ahead(given, 0, 1)
        moved[0][1].clear()
        moved[1][1].clear()
        self.assertEqual(given, hall(UP, WORKS_DOWN))


class MendedTest(unittest.TestCase):
    def test_nothing_to_mend(self):
        for given in [H, hall([]), hall(UP, UP), hall(DOWN, DOWN, DOWN), hall(UP + DOWN)]:
            self.assertEqual(least_moves(given), 0)
            self.assertEqual(mended_halls(given), [given])

    def test_one_move_of_one_of_both(self):
        up, down = [TAKE_1, TAKE_0, GIVE_1, GIVE_0], [TAKE_0, TAKE_1, GIVE_0, GIVE_1]
        self.assertEqual(least_moves(hall(UP, DOWN)), 1)
        self.assertEqual(mended_halls(hall(UP, DOWN)), [hall(UP, down), hall(up, DOWN)])

    def test_ahead_of_work_first(self):
        # Lock 0 of the second one has to come ahead of two works and of lock 1.
        self.assertEqual(least_moves(hall(UP, WORKS_DOWN)), 1)
        works_up = [TAKE_0, W1, TAKE_1, GIVE_1, GIVE_0]
        self.assertEqual(least_moves(hall(works_up, WORKS_DOWN)), 2)
        self.assertEqual(mended_halls(hall(works_up, WORKS_DOWN)), [hall([TAKE_1, TAKE_0, W1, GIVE_1, GIVE_0], WORKS_DOWN)])

    def test_a_move_can_be_of_no_use_alone(self):
        # Either both of 0 and 1, or 2.
        self.assertEqual(least_moves(hall(UP, UP, DOWN)), 1)
        self.assertEqual(least_moves(hall(UP, UP, DOWN, DOWN)), 2)
        self.assertEqual(len(mended_halls(hall(UP, UP, DOWN, DOWN))), 2)

    def test_no_moves_lead_there(self):
        # Lock 1 is given and taken again while 0 is held, and nothing goes ahead of a giving.
        self.assertIs(can_deadlock(hall(AGAIN, BOTH)), True)
        self.assertRaises(NotFound, least_moves, hall(AGAIN, BOTH))
        self.assertRaises(NotFound, mended_halls, hall(AGAIN, BOTH))

    def test_by_trying_all_moves(self):
        found = []
        for number, one in enumerate(PARTS):
            for other in PARTS:
                found.append(hall(one + [W1], [W2] + other))
                found.append(hall(one, PARTS[number - 3], other))
        found += [hall_by_number(number, 2) for number in range(120)]
        found += [hall(AGAIN, BOTH), hall(AGAIN, BOTH, UP), hall([TAKE_0, W1, W2, TAKE_1, GIVE_0, GIVE_1], WORKS_DOWN)]
        counts = []
        for given in found:
            if sum(len(program) for _, program in given) <= 18:
                counts.append(self.as_by_trying(given))
        self.assertGreater(len([many for many in counts if many]), 20)
        self.assertEqual(set(counts), {None, 0, 1, 2, 3})

    def as_by_trying(self, given):
        tried = plain_mended(given)
        if tried is None:
            self.assertRaises(NotFound, least_moves, given)
            self.assertRaises(NotFound, mended_halls, given)
            return None
        self.assertEqual((least_moves(given), mended_halls(given)), tried, given)
        return tried[0]

    def test_mended_halls_never_stick(self):
        tried = 0
        for size in (2, 3, 4):
            for number in range(150):
                given = hall_by_number(number, size)
                if not can_deadlock(given):
                    continue
                try:
                    found = mended_halls(given)
                except NotFound:
                    continue
                self.assertEqual(found, sorted(found))
                for mended in some(found, 2):
                    tried += 1
                    self.assertIs(is_hall(mended), True)
                    self.assertIs(can_deadlock(mended), False)
                    for scheduler in some(schedulers_of(size), 12):
                        self.assertEqual(ends(scheduler, mended, 200), "ended")
        self.assertGreater(tried, 50)

    def test_too_many_halls(self):
        self.assertEqual(repairs.MOST_HALLS, 20000)
        long = hall(([TAKE_0, W1, W1, W1, TAKE_1, GIVE_1, GIVE_0] * 5), ([TAKE_1, W1, W1, W1, TAKE_0, GIVE_0, GIVE_1] * 5))
        self.assertRaises(NotFound, least_moves, long)
        self.assertRaises(NotFound, mended_halls, long)
        # The hall itself, and all halls after one move: one of each process.
        for most, error in [(3, None), (2, NotFound)]:
            with mock.patch.object(repairs, "MOST_HALLS", most):
                for function in (least_moves, mended_halls):
                    for last in ([], [W1]):
                        if error is None:
                            function(hall(UP + last, DOWN + last))
                        else:
                            self.assertRaises(error, function, hall(UP + last, DOWN + last))

    def test_unlike_halls_are_looked_at_once(self):
        # Two takings that change places again are the same hall as before.
        with mock.patch.object(repairs, "MOST_HALLS", 4):
            self.assertRaisesRegex(NotFound, "no moves", least_moves, hall(AGAIN, BOTH))

    def test_arguments(self):
        for function in (least_moves, mended_halls):
            for value in NO_HALLS:
                self.assertRaises(BadHall, function, value)

    def test_lists_are_new(self):
        given = hall(UP, UP)
        mended_halls(given)[0][0][1].clear()
        mended_halls(given)[0].clear()
        self.assertEqual(given, hall(UP, UP))
        self.assertEqual(mended_halls(given), [given])

    def test_all_are_defined_in_repairs(self):
        for function in (least_moves, mended_halls, moved_ahead):
            self.assertEqual(function.__module__, repairs.__name__)


if __name__ == "__main__":
    unittest.main()
