"""The interface of processturns/lags.py."""

import unittest
from fractions import Fraction
from itertools import permutations, product

from counted import schedulers_of, some
from plain import PlainHall
from processturns import lags
from processturns.errors import BadNumber, BadScheduler
from processturns.lags import lead_and_lag, steady_round, steady_shares
from refusals import raises_in_order
from values import NO_INTEGERS, NO_SCHEDULERS, NO_TUPLES

FIRST, LAST = ("first",), ("last",)
MANY = 600


def long_run(scheduler, size, many=MANY):
    """Who runs, by the second way, where all come in unit 0 and work for ever."""
    plain = PlainHall(scheduler, size)
    ran = []
    for unit in range(many):
        plain.come(range(size) if unit == 0 else ())
        ran.append(plain.choose())
        plain.do(ran[-1], ("work", 1))
    return ran


class RoundTest(unittest.TestCase):
    def test_example_of_the_document(self):
        self.assertEqual(steady_round(("rounds", 1, 0), 2), ([], [0, 1]))

    def test_known_rounds(self):
        for size in (1, 2, 3, 4):
            everybody = list(range(size))
            self.assertEqual(steady_round(FIRST, size), ([], [0]))
            self.assertEqual(steady_round(LAST, size), ([], [size - 1]))
            self.assertEqual(steady_round(("due", (2,) * size), size), ([], [0]))
            self.assertEqual(steady_round(("shares", (3,) * size), size), ([], everybody))
            self.assertEqual(steady_round(("order", tuple(everybody[::-1]), 1, ("lent",)), size), ([], [size - 1]))
        for late in (0, 1):
            self.assertEqual(steady_round(("rounds", 3, late), 2), ([], [0, 0, 0, 1, 1, 1]))
        self.assertEqual(steady_round(("due", (3, 1)), 2), ([], [1]))
        # The second one has half of its account left whenever the first one has none.
        self.assertEqual(steady_round(("shares", (1, 2)), 2), ([], [0, 1, 1]))

    def test_before_the_round(self):
        # 0 1, then 0 0 1 1 again and again, which is 1 0 0 1 again and again from one unit earlier on.
        self.assertEqual(steady_round(("levels", (1, 2), 0), 2), ([0], [1, 0, 0, 1]))
        # 0 0 1 1, then 0 1 again and again.
        self.assertEqual(steady_round(("levels", (2, 1), 0), 2), ([0, 0, 1], [1, 0]))
        # 0 1, 0 0 1 1, then each of them 4 units.
        self.assertEqual(steady_round(("levels", (1, 2, 4), 0), 2), ([0, 1, 0, 0], [1, 1, 0, 0, 0, 0, 1, 1]))

    def test_as_a_long_run(self):
        for size in (1, 2, 3, 4):
            for scheduler in schedulers_of(size):
                before, turn = steady_round(scheduler, size)
                self.assertLess(len(before) + 3 * len(turn), MANY)
                ran = long_run(scheduler, size)
                self.assertEqual(before + (turn * MANY)[:MANY - len(before)], ran, scheduler)

    def test_nothing_shorter_would_do(self):
        for size in (1, 2, 3, 4):
            for scheduler in schedulers_of(size):
                before, turn = steady_round(scheduler, size)
                ran = long_run(scheduler, size)
                # A run that comes again after fewer units, or from an earlier one on, would be another one.
                for many in range(1, len(turn)):
                    self.assertNotEqual(ran[300:500], ran[300 + many:500 + many], (scheduler, many))
                if before:
                    start = len(before) - 1
                    self.assertNotEqual(ran[start], ran[start + len(turn)], scheduler)

    def test_levels_raised(self):
        # Behind 8 units all are in the first queue again, 0 ahead or behind as it stands then.
        for raised in (1, 2, 5, 8):
            before, turn = steady_round(("levels", (1, 2, 3), raised), 3)
            self.assertEqual(before + (turn * 99)[:99 - len(before)], long_run(("levels", (1, 2, 3), raised), 3, 99))

    def test_lists_are_new(self):
        for told in steady_round(("levels", (1, 2), 0), 2):
            told.clear()
        self.assertEqual(steady_round(("levels", (1, 2), 0), 2), ([0], [1, 0, 0, 1]))


class SharesTest(unittest.TestCase):
    def test_known_shares(self):
        self.assertEqual(steady_shares(FIRST, 3), [(1, 1), (0, 1), (0, 1)])
        self.assertEqual(steady_shares(("rounds", 4, 1), 4), [(1, 4)] * 4)
        self.assertEqual(steady_shares(FIRST, 1), [(1, 1)])
        self.assertEqual(steady_shares(("levels", (1, 2), 0), 2), [(1, 2), (1, 2)])

    def test_shares_are_as_the_weights(self):
        for size in (1, 2, 3, 4):
            for weights in some(list(product((1, 2, 3, 4), repeat=size)), 60):
                shares = [Fraction(*pair) for pair in steady_shares(("shares", weights), size)]
                self.assertEqual(shares, [Fraction(weight, sum(weights)) for weight in weights])

    def test_by_counting(self):
        for size in (2, 3, 4):
            for scheduler in some(schedulers_of(size), 60):
                turn = steady_round(scheduler, size)[1]
                told = steady_shares(scheduler, size)
                self.assertEqual([Fraction(*pair) for pair in told],
                                 [Fraction(turn.count(slot), len(turn)) for slot in range(size)])
                # In lowest terms.
                self.assertEqual(told, [Fraction(*pair).as_integer_ratio() for pair in told])


class LeadAndLagTest(unittest.TestCase):
    def by_counting(self, scheduler, weights, slot):
        """The greatest differences over the beginning and several rounds."""
        before, turn = steady_round(scheduler, len(weights))
        share = Fraction(weights[slot], sum(weights))
        found = [Fraction(0)]
        for who in long_run(scheduler, len(weights), len(before) + 3 * len(turn)):
            found.append(found[-1] + (1 if who == slot else 0) - share)
        if found[-1] != found[-1 - len(turn)]:
            return None
        return max(found).as_integer_ratio(), (-min(found)).as_integer_ratio()

    def test_known_ones(self):
        self.assertEqual(lead_and_lag(("rounds", 1, 0), 2, (1, 1), 0), ((1, 2), (0, 1)))
        self.assertEqual(lead_and_lag(("rounds", 1, 0), 2, (1, 1), 1), ((0, 1), (1, 2)))
        self.assertEqual(lead_and_lag(("rounds", 3, 0), 2, (4, 4), 0), ((3, 2), (0, 1)))
        self.assertEqual(lead_and_lag(FIRST, 1, (9,), 0), ((0, 1), (0, 1)))
        self.assertEqual(lead_and_lag(("levels", (1, 2), 0), 2, (1, 1), 1), ((0, 1), (1, 1)))

    def test_without_a_greatest(self):
        self.assertIsNone(lead_and_lag(FIRST, 2, (1, 1), 0))
        self.assertIsNone(lead_and_lag(FIRST, 2, (9, 1), 1))
        self.assertIsNone(lead_and_lag(("rounds", 1, 0), 2, (1, 2), 0))

    def test_one_of_the_processes_can_have_its_share_alone(self):
        scheduler = ("shares", (2, 1, 3))
        self.assertIsNotNone(lead_and_lag(scheduler, 3, (2, 2, 2), 0))
        self.assertIsNone(lead_and_lag(scheduler, 3, (2, 2, 2), 1))

    def test_by_counting_over_several_rounds(self):
        found = 0
        for size in (1, 2, 3, 4):
            for scheduler in some(schedulers_of(size), 40):
                for weights in [(1,) * size, (2, 1, 3, 1)[:size], (9, 9, 9, 9)[:size], (1, 2, 4, 5)[:size]]:
                    for slot in range(size):
                        told = lead_and_lag(scheduler, size, weights, slot)
                        self.assertEqual(told, self.by_counting(scheduler, weights, slot), (scheduler, weights, slot))
                        found += told is not None
            for weights in some(list(product((1, 2, 3, 4), repeat=size)), 30):
                told = lead_and_lag(("shares", weights), size, weights, size - 1)
                self.assertEqual(told, self.by_counting(("shares", weights), weights, size - 1))
                self.assertIsNotNone(told)
        self.assertGreater(found, 100)


class ChecksTest(unittest.TestCase):
    SIZE = (1, [0, -1, 5, 6] + NO_INTEGERS, BadNumber)
    SCHEDULER = (0, NO_SCHEDULERS, BadScheduler)

    def test_rounds_and_shares(self):
        for function in (steady_round, steady_shares):
            raises_in_order(self, function, (FIRST, 2), [self.SIZE, self.SCHEDULER])
            for size in (1, 2, 3, 4):
                for order in permutations(range(size)):
                    function(("aging", order, 1), size)
                self.assertRaises(BadScheduler, function, ("due", (1,) * size), size % 4 + 1)

    def test_weights(self):
        others = NO_TUPLES + [(), (1,), (1, 1, 1), [1, 1]]
        numbers = [(0, 1), (1, 0), (10, 1), (1, 10), (-1, 1)] + [(1, value) for value in NO_INTEGERS] + [
            (value, 1) for value in NO_INTEGERS
        ]
        raises_in_order(self, lead_and_lag, (FIRST, 2, (1, 9), 1), [
            self.SIZE, self.SCHEDULER, (2, others, BadScheduler), (2, numbers, BadNumber),
            (3, [-1, 2, 3] + NO_INTEGERS, BadNumber),
        ])
        for size in (1, 2, 3, 4):
            for place in range(size):
                weights = [1] * size
                weights[place] = 10
                self.assertRaises(BadNumber, lead_and_lag, FIRST, size, tuple(weights), 0)
            self.assertRaises(BadScheduler, lead_and_lag, FIRST, size, (0,) * (size + 1), 0)
            self.assertRaises(BadNumber, lead_and_lag, FIRST, size, (1,) * size, size)

    def test_all_are_defined_in_lags(self):
        for function in (steady_round, steady_shares, lead_and_lag):
            self.assertEqual(function.__module__, lags.__name__)


if __name__ == "__main__":
    unittest.main()
