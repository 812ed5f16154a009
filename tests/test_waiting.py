"""Point [5], and the interface of processturns/waiting.py."""

import unittest
from unittest import mock

from counted import hall_by_number, schedulers_of, short_halls, some
from plain_halls import plain_graph, plain_longest
from processturns import games, waiting
from processturns.errors import BadNumber, BadScheduler, NotFound
from processturns.halls import hall_hold, hall_locks, is_hall
from processturns.running import run, status_rows
from processturns.waiting import (
    all_longest_waits, held_back_hall, is_fair, longest_held_back, longest_wait, waiting_hall,
)
from refusals import raises_in_order
from values import NO_INTEGERS, NO_SCHEDULERS

FIRST, LAST = ("first",), ("last",)
PLAIN, LENT = ("plain",), ("lent",)
READY, THERE = ["ready"], ["ready", "waits"]
BY_WORDS = [(READY, longest_wait, waiting_hall), (THERE, longest_held_back, held_back_hall)]


def longest_row(scheduler, hall, slot, words):
    """The most units in a row, of the first 200, in which a process has one of the words and another one runs."""
    signs = "".join(
        "x" if told[slot] in words and who not in (None, slot) else " "
        for told, who in zip(status_rows(scheduler, hall, 200), run(scheduler, hall, 200))
    )
    return max(map(len, signs.split(" ")))


class LongestWaitTest(unittest.TestCase):
    def all_are(self, scheduler, size, expected, locks=(0, 1, 2), holds=(0, 3)):
        for many in locks:
            for hold in holds:
                found = all_longest_waits(scheduler, size, many, hold)
                self.assertEqual(found, expected, (scheduler, many, hold))
                for slot in range(size):
                    self.assertEqual(longest_wait(scheduler, size, many, hold, slot), expected[slot])

    def test_example_of_the_document(self):
        self.assertEqual(longest_wait(("rounds", 2, 0), 2, 0, 0, 0), 2)

    def test_one_alone_never_waits(self):
        for scheduler in schedulers_of(1):
            self.all_are(scheduler, 1, [0])
            self.assertEqual(longest_held_back(scheduler, 1, 2, 0, 0), 0)

    def test_without_end(self):
        for size in (2, 3):
            for scheduler in [FIRST, LAST, ("due", (4,) * size), ("order", tuple(range(size)), 0, PLAIN)]:
                self.all_are(scheduler, size, [None] * size, holds=[0, 2])

    def test_the_best_of_an_order_that_takes(self):
        self.all_are(("order", (1, 0), 1, PLAIN), 2, [None, 0])
        self.all_are(("order", (2, 0, 1), 1, PLAIN), 3, [None, None, 0])
        # Only one that the best waits for, which is not ready then, is as good as it is.
        self.all_are(("order", (1, 0, 2), 1, LENT), 3, [None, 0, None])

    def test_the_best_behind_raised_places(self):
        # 1 runs on with the lock at the place of 0: for so many units behind the taking.
        scheduler = ("order", (0, 1), 1, ("top", (0, 0)))
        self.all_are(scheduler, 2, [0, None], [0])
        for hold in range(1, 10):
            self.all_are(scheduler, 2, [hold, None], [1], [hold])
            self.all_are(("order", (0, 2, 1), 1, ("top", (0, 2))), 3, [hold, None, None], [1], [hold])
        self.all_are(scheduler, 2, [None, None], [1, 2], [0])
        # A lock that raises no place does not make it wait.
        self.all_are(("order", (0, 1), 1, ("top", (1, 0))), 2, [0, None], [1], [0, 5])
        self.all_are(("order", (0, 1), 1, ("top", (1, 0))), 2, [4, None], [2], [4])
        self.all_are(("order", (0, 1), 1, ("top", (1, 0))), 2, [None, None], [2], [0])

    def test_two_locks_are_held_longer_than_one(self):
        # With a hold of 2 and both locks: behind the first taking the second one, and the two givings.
        self.all_are(("order", (0, 1), 1, ("top", (0, 0))), 2, [3, None], [2], [2])
        # With a hold of 1 each lock is given at once, and nothing is taken between.
        self.all_are(("order", (0, 1), 1, ("top", (0, 0))), 2, [1, None], [2], [1])
        # With a hold of 3 the locks can be held by turns for ever: 0 until 1 is taken, and 1 until 0 is taken.
        self.all_are(("order", (0, 1), 1, ("top", (0, 0))), 2, [None, None], [2], [3, 9])

    def test_rounds(self):
        for size in (2, 3):
            for quantum in (1, 2, 3, 4):
                for late in (0, 1):
                    self.all_are(("rounds", quantum, late), size, [(size - 1) * quantum] * size, [0, 1], [0, 1])
                self.all_are(("levels", (quantum,), 0), size, [(size - 1) * quantum] * size, [0, 2], [0])

    def test_levels(self):
        # One that is in a worse queue waits for those that come again and again.
        self.all_are(("levels", (1, 1), 0), 2, [None, None])
        # All are raised before one can leave the first queue.
        self.all_are(("levels", (4, 1), 3), 2, [None, None])

    def test_by_the_second_way(self):
        for size, locks, hold, many in [
            (1, 2, 2, 9), (2, 0, 0, 60), (2, 1, 0, 40), (2, 1, 1, 20), (2, 1, 3, 20), (2, 2, 0, 20), (2, 2, 1, 12),
            (2, 2, 3, 10), (3, 0, 0, 20),
        ]:
            for scheduler in some(schedulers_of(size), many):
                self.as_by_the_second_way(scheduler, size, locks, hold)

    def test_by_the_second_way_for_three_with_locks(self):
        for scheduler in [("order", (1, 2, 0), 1, LENT), ("order", (1, 2, 0), 1, PLAIN), ("order", (0, 1, 2), 0, PLAIN),
                          ("order", (0, 1, 2), 1, ("top", (0, 1))), ("order", (0, 2, 1), 1, ("top", (1, 0))), FIRST]:
            for locks, hold in [(1, 0), (1, 2), (2, 0), (2, 2)]:
                self.as_by_the_second_way(scheduler, 3, locks, hold)
        for scheduler in [LAST, ("rounds", 1, 1), ("shares", (1, 1, 2)), ("due", (1, 2, 1))]:
            self.as_by_the_second_way(scheduler, 3, 1, 1)
        # Here it counts that asking in vain is no unit of the program's own.
        for scheduler, hold in [(("levels", (1,), 3), 2), (("aging", (1, 0, 2), 1), 2), (("rounds", 2, 0), 3)]:
            self.as_by_the_second_way(scheduler, 3, 1, hold)

    def as_by_the_second_way(self, scheduler, size, locks, hold):
        graph = plain_graph(scheduler, size, locks, hold)
        waits = [plain_longest(graph, slot, READY) for slot in range(size)]
        self.assertEqual(all_longest_waits(scheduler, size, locks, hold), waits, (scheduler, locks, hold))
        if not hold:
            self.assertIs(is_fair(scheduler, size, locks), None not in waits)
        for slot in range(size):
            self.assertEqual(longest_held_back(scheduler, size, locks, hold, slot),
                             plain_longest(graph, slot, THERE), (scheduler, locks, hold, slot))


class HeldBackTest(unittest.TestCase):
    def test_the_best_waits_for_a_lock(self):
        for hold in range(1, 10):
            # Two: the other one holds the lock. Three: one between them can run for ever, if the place is not lent.
            self.assertEqual(longest_held_back(("order", (1, 0), 1, PLAIN), 2, 1, hold, 1), hold)
            self.assertIsNone(longest_held_back(("order", (0, 1, 2), 1, PLAIN), 3, 1, hold, 0))
            self.assertEqual(longest_held_back(("order", (0, 1, 2), 1, LENT), 3, 1, hold, 0), hold)
            self.assertEqual(longest_held_back(("order", (0, 1, 2), 1, ("top", (0, 0))), 3, 1, hold, 0), hold)
            # Raised to the place of the one between, which is better by the order only until it has run.
            self.assertIsNone(longest_held_back(("order", (0, 1, 2), 1, ("top", (2, 0))), 3, 1, hold, 0))

    def test_without_a_hold_there_is_no_end(self):
        for scheduler in [("order", (0, 1, 2), 1, PLAIN), ("order", (0, 1, 2), 1, LENT)]:
            self.assertIsNone(longest_held_back(scheduler, 3, 1, 0, 0))
            self.assertEqual(longest_held_back(scheduler, 3, 0, 0, 0), 0)

    def test_without_locks_it_is_the_longest_wait(self):
        for size in (2, 3):
            for scheduler in some(schedulers_of(size), 30):
                for slot in range(size):
                    self.assertEqual(longest_held_back(scheduler, size, 0, 0, slot),
                                     longest_wait(scheduler, size, 0, 0, slot))

    def test_units_in_which_nobody_runs_do_not_count(self):
        # Two in a ring wait for ever, and nobody else runs; a third one can run for ever.
        self.assertEqual(longest_held_back(("rounds", 1, 0), 2, 2, 4, 0),
                         plain_longest(plain_graph(("rounds", 1, 0), 2, 2, 4), 0, THERE))
        self.assertIsNotNone(longest_held_back(("rounds", 1, 0), 2, 2, 4, 0))
        self.assertIsNone(longest_held_back(("rounds", 1, 0), 3, 2, 4, 0))


class HallsTest(unittest.TestCase):
    def fits(self, hall, scheduler, size, locks, hold):
        self.assertIs(is_hall(hall), True, hall)
        self.assertEqual(len(hall), size)
        self.assertTrue(all(lock < locks for lock in hall_locks(hall)), hall)
        if hold:
            self.assertLessEqual(hall_hold(hall), hold)

    def test_there_are_such_halls_up_to_the_longest(self):
        for size, locks, hold, many in [(1, 1, 0, 5), (2, 0, 0, 40), (2, 1, 0, 20), (2, 1, 2, 20), (2, 2, 3, 10),
                                        (3, 0, 0, 16), (3, 1, 1, 6), (3, 2, 0, 3)]:
            for scheduler in some(schedulers_of(size), many):
                for words, longest, hall_with in BY_WORDS:
                    for slot in (0, size - 1):
                        most = longest(scheduler, size, locks, hold, slot)
                        for units in {1, 2, 7, 20, most, (most or 0) + 1} - {0, None}:
                            given = scheduler, size, locks, hold, slot, units
                            if most is not None and units > most:
                                self.assertRaises(NotFound, hall_with, *given)
                                continue
                            hall = hall_with(*given)
                            self.fits(hall, scheduler, size, locks, hold)
                            self.assertGreaterEqual(longest_row(scheduler, hall, slot, words), units, (given, hall))

    def test_no_other_hall_has_more(self):
        for size, halls in [(2, some(short_halls(), 100)), (3, [hall_by_number(number, 3) for number in range(60)])]:
            for scheduler in some(schedulers_of(size), 14):
                for words, longest, _ in BY_WORDS:
                    for slot in range(size):
                        most = longest(scheduler, size, 2, 0, slot)
                        if most is not None:
                            rows = [longest_row(scheduler, hall, slot, words) for hall in halls]
                            self.assertLessEqual(max(rows), most, (scheduler, slot))

    def test_no_other_hall_with_this_hold_has_more(self):
        found = [hall_by_number(number, 2) for number in range(300)]
        for scheduler in [("order", (0, 1), 1, PLAIN), ("order", (0, 1), 1, ("top", (0, 0))), ("rounds", 1, 0)]:
            for words, longest, _ in BY_WORDS:
                for hold in (1, 2, 4):
                    most = longest(scheduler, 2, 2, hold, 0)
                    for hall in found:
                        if most is not None and hall_hold(hall) <= hold:
                            self.assertLessEqual(longest_row(scheduler, hall, 0, words), most, (scheduler, hall))

    def test_longest_rows(self):
        for scheduler, locks, hold in [(FIRST, 0, 0), (("order", (0, 1, 2), 1, PLAIN), 1, 9), (("aging", (2, 1, 0), 3), 0, 0),
                                       (("levels", (4, 4, 4), 8), 0, 0), (("due", (1, 3, 6)), 1, 0)]:
            for words, longest, hall_with in BY_WORDS:
                for slot in range(3):
                    most = longest(scheduler, 3, locks, hold, slot)
                    units = 20 if most is None else most
                    if units:
                        hall = hall_with(scheduler, 3, locks, hold, slot, units)
                        self.fits(hall, scheduler, 3, locks, hold)
                        self.assertGreaterEqual(longest_row(scheduler, hall, slot, words), units)

    def test_a_hold_that_only_some_programs_have(self):
        scheduler = ("order", (0, 1), 1, ("top", (0, 0)))
        for hold in range(1, 10):
            hall = waiting_hall(scheduler, 2, 1, hold, 0, hold)
            self.assertEqual(hall_hold(hall), hold)
            self.assertRaises(NotFound, waiting_hall, scheduler, 2, 1, hold, 0, hold + 1)
        self.assertGreaterEqual(longest_row(scheduler, waiting_hall(scheduler, 2, 1, 0, 0, 20), 0, READY), 20)


class FairTest(unittest.TestCase):
    def test_fair_and_unfair(self):
        for locks in (0, 1, 2):
            for scheduler in [("rounds", 1, 0), ("rounds", 4, 1), ("levels", (3,), 0), ("shares", (1, 1, 1))]:
                self.assertIs(is_fair(scheduler, 3, locks), None not in all_longest_waits(scheduler, 3, locks, 0))
            self.assertIs(is_fair(("rounds", 1, 0), 3, locks), True)
            for scheduler in [FIRST, LAST, ("order", (0, 1, 2), 1, PLAIN), ("due", (1, 1, 1))]:
                self.assertIs(is_fair(scheduler, 3, locks), False)
        for scheduler in schedulers_of(1):
            self.assertIs(is_fair(scheduler, 1, 2), True)

    def test_ages(self):
        for step in (1, 2, 3):
            self.assertIs(is_fair(("aging", (0, 1), step), 2, 0), True)
            self.assertIs(is_fair(("aging", (0, 1, 2), step), 3, 0), True)


class ChecksTest(unittest.TestCase):
    SIZE = (1, [0, -1, 4, 5] + NO_INTEGERS, BadNumber)
    SCHEDULER = (0, NO_SCHEDULERS, BadScheduler)
    LOCKS = (2, [-1, 3] + NO_INTEGERS, BadNumber)
    HOLD = (3, [-1, 10] + NO_INTEGERS, BadNumber)
    SLOT = (4, [-1, 2, 3] + NO_INTEGERS, BadNumber)
    UNITS = (5, [0, -1, 21] + NO_INTEGERS, BadNumber)

    def test_arguments(self):
        every = [self.SIZE, self.SCHEDULER, self.LOCKS, self.HOLD, self.SLOT, self.UNITS]
        right = (FIRST, 2, 1, 0, 1, 1)
        for function in (longest_wait, longest_held_back):
            raises_in_order(self, function, right[:5], every[:5])
        for function in (waiting_hall, held_back_hall):
            raises_in_order(self, function, right, every)
        raises_in_order(self, all_longest_waits, right[:4], every[:4])
        raises_in_order(self, is_fair, right[:3], every[:3])

    def test_bounds(self):
        for hold in (0, 9):
            for function in (longest_wait, longest_held_back):
                self.assertIsNone(function(FIRST, 3, 2, hold, 2))
            for hall_with in (waiting_hall, held_back_hall):
                for units in (1, 20):
                    self.assertIs(is_hall(hall_with(FIRST, 3, 2, hold, 2, units)), True)

    def test_what_is_not_valid_is_told_before_what_is_not_found(self):
        scheduler = ("aging", (0, 1, 2), 3)
        self.assertRaises(NotFound, longest_wait, scheduler, 3, 2, 9, 2)
        self.assertRaises(BadNumber, longest_wait, scheduler, 3, 2, 9, 3)
        self.assertRaises(NotFound, waiting_hall, scheduler, 3, 2, 9, 2, 20)
        self.assertRaises(BadNumber, waiting_hall, scheduler, 3, 2, 9, 2, 21)
        self.assertRaises(NotFound, all_longest_waits, scheduler, 3, 2, 9)

    def test_more_than_the_most_states_are_not_found(self):
        for hold, many in [(0, 9), (1, 9), (3, 17)]:
            # First: nobody, or 4 queues, and the lock is free or with the first one.
            with mock.patch.object(games, "MOST_STATES", many):
                all_longest_waits(FIRST, 2, 1, hold)
            with mock.patch.object(games, "MOST_STATES", 8):
                self.assertRaises(NotFound, all_longest_waits, FIRST, 2, 1, hold)
                self.assertRaises(NotFound, longest_wait, FIRST, 2, 1, hold, 0)
                self.assertRaises(NotFound, longest_held_back, FIRST, 2, 1, hold, 0)
                self.assertRaises(NotFound, waiting_hall, FIRST, 2, 1, hold, 0, 1)
                self.assertRaises(NotFound, held_back_hall, FIRST, 2, 1, hold, 0, 1)
        with mock.patch.object(games, "MOST_STATES", 8):
            self.assertRaises(NotFound, is_fair, FIRST, 2, 1)

    def test_lists_are_new(self):
        all_longest_waits(FIRST, 2, 0, 0).append(3)
        self.assertEqual(all_longest_waits(FIRST, 2, 0, 0), [None, None])

    def test_all_are_defined_in_waiting(self):
        for function in [longest_wait, longest_held_back, all_longest_waits, waiting_hall, held_back_hall, is_fair]:
            self.assertEqual(function.__module__, waiting.__name__)


if __name__ == "__main__":
    unittest.main()
