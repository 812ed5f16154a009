"""Point [4], as far as tuples go, and the interface of processturns/schedulers.py."""

import copy
import unittest

from processturns import schedulers
from processturns.errors import BadScheduler
from processturns.schedulers import is_scheduler, plain_family
from values import NO_INTEGERS, NO_TUPLES

PLAIN = ("plain",)
LENT = ("lent",)
# One of each kind, valid for two processes.
FOR_TWO = [
    ("first",), ("last",), ("order", (1, 0), 1, PLAIN), ("order", (0, 1), 0, LENT),
    ("order", (0, 1), 1, ("top", (0, 1))), ("rounds", 2, 0), ("levels", (1, 2), 3),
    ("aging", (0, 1), 2), ("due", (3, 4)), ("shares", (1, 2)),
]


class SchedulerTest(unittest.TestCase):
    def valid(self, value, size=2):
        self.assertIs(is_scheduler(value, size), True, (value, size))

    def wrong(self, value, size=2):
        self.assertIs(is_scheduler(value, size), False, (value, size))

    def bounds(self, make, least, greatest, size=2):
        """The number in make(number) is valid just from least to greatest."""
        for number in range(least, greatest + 1):
            self.valid(make(number), size)
        for number in [least - 1, greatest + 1] + NO_INTEGERS:
            self.wrong(make(number), size)

    def tuples(self, make, row, size=2):
        """In make(row), the row may be no list, not longer and no other kind of value."""
        self.valid(make(row), size)
        for value in [list(row), row + row[:1], (), row[0], (row,)] + NO_TUPLES:
            self.wrong(make(value), size)

    def test_one_of_each_kind(self):
        for value in FOR_TWO:
            self.valid(value)

    def test_sizes_that_are_not_valid(self):
        for size in [-1, 0, 5] + NO_INTEGERS:
            for value in FOR_TWO + [("due", ()), ("due", (1,) * 5), ("shares", (1,))]:
                self.wrong(value, size)

    def test_sizes_1_to_4(self):
        for size in [1, 2, 3, 4]:
            for value in [
                ("first",), ("last",), ("rounds", 1, 1), ("levels", (4,), 0),
                ("order", tuple(range(size)), 0, PLAIN), ("aging", tuple(range(size)), 1),
                ("due", (1,) * size), ("shares", (1,) * size),
            ]:
                self.valid(value, size)

    def test_other_values(self):
        for value in NO_TUPLES + [
            (), (None,), ("next",), ("",), ("First",), ("first ",), (b"first",), (0,), (True,),
            (("first",),), (["first"],), ({"first": 1},), ({"first"},), (PLAIN,), PLAIN, LENT,
            ("top", (0, 1)), (1, "rounds", 0),
        ]:
            self.wrong(value)

    def test_lists_and_tuples_too_short_or_too_long(self):
        for value in FOR_TWO:
            self.wrong(list(value))
            self.wrong(value + (1,))
            self.wrong(value + (None,))
            self.wrong(value + ((),))
            self.wrong(value[:-1])
            self.wrong((value,))

    def test_order_is_of_all_processes(self):
        for make in [lambda row: ("order", row, 0, PLAIN), lambda row: ("aging", row, 1)]:
            self.tuples(make, (1, 0))
            self.tuples(make, (0,), 1)
            self.tuples(make, (3, 1, 0, 2), 4)
            for row in [(0,), (0, 0), (1, 1), (0, 2), (1, 2), (-1, 0), (0, 1, 2), (0, 1, 0)]:
                self.wrong(make(row))
            for row in [(True, False), (0, True), (False, 1), (0, "1"), (0, None), (0, [1])]:
                self.wrong(make(row))
            for row in [(0, 1), (0, 1, 2, 3), (0, 1, 1), (0, 2, 3), (1, 2, 3)]:
                self.wrong(make(row), 3)

    def test_order_taking(self):
        self.bounds(lambda taking: ("order", (0, 1), taking, PLAIN), 0, 1)

    def test_order_rules(self):
        for rule in NO_TUPLES + [
            (), ("",), ("best",), (b"plain",), (0,), ["plain"], ["lent"], ("plain", 0), ("lent", 0),
            ("top",), ["top", (0, 1)], ("top", (0, 1), 0), ("top", 0, 1), ("plain", (0, 1)),
            ("lent", (0, 1)), (PLAIN,), ("plain", "lent"), (["plain"],), ("top", (0, 1), (0, 1)),
        ]:
            self.wrong(("order", (0, 1), 0, rule))

    def test_order_top_places(self):
        def make(row):
            return ("order", (0, 1), 0, ("top", row))
        self.tuples(make, (1, 0))
        self.wrong(make((0,)))
        self.bounds(lambda place: make((place, 0)), 0, 1)
        self.bounds(lambda place: make((1, place)), 0, 1)
        self.bounds(lambda place: ("order", (0,), 0, ("top", (place, 0))), 0, 0, 1)
        self.bounds(lambda place: ("order", (2, 0, 3, 1), 0, ("top", (3, place))), 0, 3, 4)

    def test_rounds(self):
        self.bounds(lambda quantum: ("rounds", quantum, 0), 1, 4)
        self.bounds(lambda quantum: ("rounds", quantum, 1), 1, 4)
        self.bounds(lambda late: ("rounds", 1, late), 0, 1)

    def test_levels(self):
        def make(row):
            return ("levels", row, 0)
        for row in [(1,), (4,), (1, 4), (4, 1), (4, 4, 4), (1, 2, 3)]:
            self.valid(make(row))
        for row in [(), (1, 1, 1, 1), [1], [1, 2], {1: 1}, 1, "1"] + NO_TUPLES:
            self.wrong(make(row))
        self.bounds(lambda quantum: make((quantum,)), 1, 4)
        self.bounds(lambda quantum: make((1, quantum)), 1, 4)
        self.bounds(lambda quantum: make((1, quantum, 1)), 1, 4)
        self.bounds(lambda raised: ("levels", (1, 2), raised), 0, 8)

    def test_aging_step(self):
        self.bounds(lambda step: ("aging", (0, 1), step), 1, 3)

    def test_due(self):
        self.tuples(lambda row: ("due", row), (3, 4))
        self.wrong(("due", (3,)))
        self.wrong(("due", (1, 2, 3)))
        self.bounds(lambda limit: ("due", (limit, 1)), 1, 6)
        self.bounds(lambda limit: ("due", (1, limit)), 1, 6)
        self.bounds(lambda limit: ("due", (1, 1, 1, limit)), 1, 6, 4)

    def test_shares(self):
        self.tuples(lambda row: ("shares", row), (3, 4))
        self.wrong(("shares", (3,)))
        self.wrong(("shares", (1, 2, 3)))
        self.bounds(lambda weight: ("shares", (weight, 1)), 1, 4)
        self.bounds(lambda weight: ("shares", (1, weight)), 1, 4)
        self.bounds(lambda weight: ("shares", (1, 1, 1, weight)), 1, 4, 4)

    def test_no_argument_is_changed(self):
        for value in [["first"], ("levels", [1, 2], 0), ("order", [0, 1], 0, ["plain"])]:
            given = copy.deepcopy(value)
            is_scheduler(given, 2)
            self.assertEqual(given, value)

    def test_all_are_defined_in_schedulers(self):
        for function in [is_scheduler, plain_family]:
            self.assertEqual(function.__module__, schedulers.__name__)


class PlainFamilyTest(unittest.TestCase):
    ROUNDS = [
        ("rounds", 1, 0), ("rounds", 1, 1), ("rounds", 2, 0), ("rounds", 2, 1),
        ("rounds", 3, 0), ("rounds", 3, 1),
    ]

    def test_size_1(self):
        self.assertEqual(plain_family(1), [
            ("first",), ("last",), ("order", (0,), 0, PLAIN), ("order", (0,), 1, PLAIN),
        ] + self.ROUNDS)

    def test_size_2(self):
        self.assertEqual(len(plain_family(2)), 12)
        self.assertEqual(plain_family(2), [
            ("first",), ("last",), ("order", (0, 1), 0, PLAIN), ("order", (0, 1), 1, PLAIN),
            ("order", (1, 0), 0, PLAIN), ("order", (1, 0), 1, PLAIN),
        ] + self.ROUNDS)

    def test_size_3(self):
        family = plain_family(3)
        self.assertEqual(len(family), 20)
        self.assertEqual([value[1] for value in family[2:14:2]], [
            (0, 1, 2), (0, 2, 1), (1, 0, 2), (1, 2, 0), (2, 0, 1), (2, 1, 0),
        ])
        self.assertEqual([value[1] for value in family[3:15:2]],
                         [value[1] for value in family[2:14:2]])
        self.assertEqual([value[2] for value in family[2:14]], [0, 1] * 6)
        self.assertEqual({(value[0], value[3]) for value in family[2:14]}, {("order", PLAIN)})
        self.assertEqual(family[:2] + family[14:], [("first",), ("last",)] + self.ROUNDS)

    def test_all_are_schedulers_of_the_size(self):
        for size in [1, 2, 3]:
            for value in plain_family(size):
                self.assertIs(is_scheduler(value, size), True, value)

    def test_sizes_that_are_not_valid(self):
        for size in [-1, 0, 4, 5] + NO_INTEGERS:
            self.assertRaises(BadScheduler, plain_family, size)

    def test_the_list_is_new(self):
        plain_family(2).append(None)
        self.assertEqual(len(plain_family(2)), 12)


if __name__ == "__main__":
    unittest.main()
