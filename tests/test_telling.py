"""Point [6], and the interface of processturns/telling.py."""

import unittest
from itertools import combinations, product
from unittest import mock

from counted import family_of, hall_by_number, schedulers_of, short_halls, some
from plain_halls import plain_telling
from processturns import games, telling
from processturns.errors import BadNumber, BadScheduler, NotFound
from processturns.halls import hall_locks, is_hall
from processturns.running import run
from processturns.schedulers import plain_family
from processturns.telling import classes, same, telling_hall, telling_table
from refusals import raises_in_order
from values import NO_FAMILIES, NO_INTEGERS, NO_SCHEDULERS

FIRST, LAST = ("first",), ("last",)
PLAIN, LENT = ("plain",), ("lent",)
# One of each kind, for two and for three processes.
KINDS = {
    2: [FIRST, LAST, ("order", (1, 0), 0, PLAIN), ("order", (1, 0), 1, LENT), ("order", (0, 1), 1, ("top", (0, 1))),
        ("rounds", 2, 1), ("levels", (1, 2), 3), ("aging", (1, 0), 2), ("due", (3, 1)), ("shares", (1, 2))],
    3: [FIRST, LAST, ("order", (1, 0, 2), 0, PLAIN), ("order", (1, 2, 0), 1, LENT),
        ("order", (0, 1, 2), 1, ("top", (0, 1))), ("order", (0, 1, 2), 1, PLAIN), ("rounds", 1, 0), ("rounds", 3, 1),
        ("levels", (1, 2), 0), ("levels", (2, 1, 1), 4), ("aging", (1, 0, 2), 1), ("due", (3, 1, 2)),
        ("due", (1, 1, 1)), ("shares", (1, 2, 3))],
}


def first_otherwise(one, other, hall, most):
    """The first unit in which two runs choose otherwise, None if there is none in so many units."""
    rows = enumerate(zip(run(one, hall, most), run(other, hall, most)))
    return next((unit for unit, (who, rival) in rows if who != rival), None)


class SameTest(unittest.TestCase):
    def one(self, one, other, size, locks=(0, 1, 2)):
        for many in locks:
            self.assertIs(same(one, other, size, many), True, (one, other, size, many))
            self.assertIs(same(other, one, size, many), True)

    def unlike(self, one, other, size, locks=(0, 1, 2)):
        for many in locks:
            self.assertIs(same(one, other, size, many), False, (one, other, size, many))
            self.assertIs(same(other, one, size, many), False)

    def test_example_of_the_document(self):
        self.assertIs(same(("rounds", 1, 0), ("rounds", 1, 1), 1, 0), True)

    def test_all_are_one_for_one_process(self):
        found = schedulers_of(1)
        for scheduler in found:
            self.one(found[0], scheduler, 1)
            self.one(scheduler, scheduler, 1, [1])

    def test_each_is_one_with_itself(self):
        for size in (2, 3):
            for scheduler in KINDS[size]:
                self.one(scheduler, scheduler, size)

    def test_one_queue_of_levels_is_rounds(self):
        for size in (1, 2, 3):
            for quantum in (1, 2, 3, 4):
                self.one(("levels", (quantum,), 0), ("rounds", quantum, 0), size, [0, 2])
        self.unlike(("levels", (2,), 0), ("rounds", 2, 1), 2)
        self.unlike(("levels", (2,), 0), ("rounds", 3, 0), 2)

    def test_rounds_early_and_late(self):
        for size in (2, 3):
            for quantum in (1, 2, 3, 4):
                self.unlike(("rounds", quantum, 0), ("rounds", quantum, 1), size)

    def test_one_that_keeps_knows_no_rules(self):
        # Only the one that runs holds locks, so nobody waits, and a better place is never looked at.
        for size in (2, 3):
            order = tuple(range(size))
            for rule in [LENT, ("top", (0, 0)), ("top", (1, 0))]:
                self.one(("order", order, 0, PLAIN), ("order", order, 0, rule), size)

    def test_the_worst_top_is_no_top(self):
        for order in [(0, 1, 2), (2, 0, 1)]:
            self.one(("order", order, 1, PLAIN), ("order", order, 1, ("top", (2, 2))), 3)
            self.one(("order", order, 1, PLAIN), ("order", order, 1, ("top", (0, 0))), 3, [0])
            self.one(("order", order, 1, PLAIN), ("order", order, 1, ("top", (2, 0))), 3, [0, 1])
            self.unlike(("order", order, 1, PLAIN), ("order", order, 1, ("top", (2, 0))), 3, [2])
            self.unlike(("order", order, 1, PLAIN), ("order", order, 1, ("top", (0, 2))), 3, [1, 2])

    def test_lending_needs_a_lock_and_a_third_process(self):
        for order in [(0, 1), (1, 0)]:
            self.one(("order", order, 1, PLAIN), ("order", order, 1, LENT), 2)
        for order in [(0, 1, 2), (2, 0, 1)]:
            self.one(("order", order, 1, PLAIN), ("order", order, 1, LENT), 3, [0])
            self.unlike(("order", order, 1, PLAIN), ("order", order, 1, LENT), 3, [1, 2])

    def test_equal_limits_and_equal_weights(self):
        for size in (2, 3):
            for number in (2, 4):
                self.one(("due", (1,) * size), ("due", (number,) * size), size)
                self.one(("shares", (1,) * size), ("shares", (number,) * size), size)
            # Due in the order in which they came; who comes first runs until it leaves.
            self.one(("due", (6,) * size), FIRST, size)

    def test_raising_one_queue_of_single_units_is_nothing(self):
        for raised in (1, 3, 8):
            self.one(("levels", (1,), 0), ("levels", (1,), raised), 2)
        self.unlike(("levels", (2,), 0), ("levels", (2,), 3), 2)
        # Before anybody has run 4 units, all are raised.
        self.one(("levels", (4, 1), 3), FIRST, 3)

    def test_of_all_kinds_none_are_one(self):
        for size in (2, 3):
            for one, other in combinations([kind for kind in KINDS[size] if kind != ("due", (1, 1, 1))], 2):
                self.unlike(one, other, size, [2])


class TellingHallTest(unittest.TestCase):
    def tells(self, one, other, size, locks):
        """The hall is as told; returns the unit."""
        hall, unit = telling_hall(one, other, size, locks)
        self.assertIs(is_hall(hall), True, hall)
        self.assertEqual(len(hall), size)
        self.assertTrue(all(lock < locks for lock in hall_locks(hall)), hall)
        self.assertEqual(first_otherwise(one, other, hall, unit + 1), unit, (one, other, hall))
        return unit

    def test_many_pairs(self):
        for size in (2, 3):
            found = some(schedulers_of(size), 36)
            for one, other in combinations(found, 2):
                for locks in (0, 2):
                    if same(one, other, size, locks):
                        self.assertRaises(NotFound, telling_hall, one, other, size, locks)
                    else:
                        self.tells(one, other, size, locks)

    def test_no_other_hall_tells_earlier(self):
        for size, halls in [(2, some(short_halls(), 200)), (3, [hall_by_number(n, 3) for n in range(120)])]:
            for one, other in combinations(KINDS[size], 2):
                unit = 99 if same(one, other, size, 2) else self.tells(one, other, size, 2)
                for hall in halls:
                    self.assertIsNone(first_otherwise(one, other, hall, unit), (one, other, hall))

    def test_as_early_as_by_the_second_way(self):
        for size, locks, many in [(2, 0, 24), (2, 1, 14), (2, 2, 9), (3, 0, 12), (3, 1, 6)]:
            found = some(schedulers_of(size), many) + KINDS[size][:many // 2]
            for one, other in combinations(found, 2):
                unit = plain_telling(one, other, size, locks)
                if unit is None:
                    self.assertIs(same(one, other, size, locks), True, (one, other, locks))
                else:
                    self.assertEqual(telling_hall(one, other, size, locks)[1], unit, (one, other, locks))

    def test_units_known_by_the_document_alone(self):
        # All come at once, and the first and the last one differ.
        self.assertEqual(self.tells(FIRST, LAST, 2, 0), 0)
        self.assertEqual(self.tells(("order", (0, 1), 0, PLAIN), ("order", (1, 0), 0, PLAIN), 2, 0), 0)
        # 1 comes while 0 runs.
        self.assertEqual(self.tells(("order", (1, 0), 0, PLAIN), ("order", (1, 0), 1, PLAIN), 2, 0), 1)
        for quantum in (1, 2, 3):
            self.assertEqual(self.tells(("rounds", quantum, 0), ("rounds", quantum + 1, 0), 2, 0), quantum)
            self.assertEqual(self.tells(("rounds", quantum, 0), ("rounds", quantum, 1), 2, 0), quantum)
        # 2 holds the lock, 0 asks for it in vain, and 1 comes: its place is worse than the lent one.
        self.assertEqual(self.tells(("order", (0, 1, 2), 1, PLAIN), ("order", (0, 1, 2), 1, LENT), 3, 1), 2)
        # Both reach the last queue after 4 + 4 units of their own, and one of them runs 3 units there.
        one, other = ("levels", (4, 4, 3), 0), ("levels", (4, 4, 4), 0)
        for size in (2, 3):
            self.assertEqual(self.tells(one, other, size, 0), 8 + 8 + 3)

    def test_with_sleep_between(self):
        # Nothing but whole units with nobody ready sets the clocks apart.
        self.assertEqual(self.tells(("levels", (2,), 7), ("levels", (2,), 8), 2, 0), 8)

    def test_none_if_they_are_one(self):
        self.assertRaises(NotFound, telling_hall, ("rounds", 1, 0), ("rounds", 1, 1), 1, 0)
        self.assertRaises(NotFound, telling_hall, FIRST, FIRST, 3, 2)


class FamilyTest(unittest.TestCase):
    def test_plain_families(self):
        for locks in (0, 1, 2):
            self.assertEqual(classes(plain_family(1), 1, locks), [list(range(10))])
            self.assertEqual(classes(plain_family(2), 2, locks), [[place] for place in range(12)])
            self.assertEqual(classes(plain_family(3), 3, locks), [[place] for place in range(20)])
            self.assertEqual(telling_table(plain_family(1), 1, locks), [[None] * 10] * 10)

    def test_lists_in_the_order_of_their_first_places(self):
        family = [("rounds", 2, 0), LAST, ("due", (4, 4)), ("levels", (2,), 0), FIRST, LAST, ("due", (1, 1))]
        self.assertEqual(classes(family, 2, 1), [[0, 3], [1, 5], [2, 4, 6]])
        self.assertEqual(classes([LAST], 2, 1), [[0]])

    def test_table(self):
        family = [("rounds", 1, 0), ("rounds", 2, 0), ("levels", (1,), 0), LAST]
        self.assertEqual(telling_table(family, 2, 0), [
            [None, 1, None, 0], [1, None, 1, 0], [None, 1, None, 0], [0, 0, 0, None],
        ])

    def test_locks_count(self):
        family = [("order", (0, 1, 2), 1, PLAIN), ("order", (0, 1, 2), 1, LENT), ("order", (0, 1, 2), 1, ("top", (2, 0)))]
        self.assertEqual([classes(family, 3, locks) for locks in (0, 1, 2)], [[[0, 1, 2]], [[0, 2], [1]], [[0], [1], [2]]])
        self.assertEqual(telling_table(family, 3, 0), [[None] * 3] * 3)
        self.assertEqual(telling_table(family, 3, 1), [[None, 2, None], [2, None, 2], [None, 2, None]])
        self.assertEqual(telling_table(family, 3, 2), [[None, 2, 1], [2, None, 1], [1, 1, None]])

    def test_both_are_as_the_pairs_are(self):
        for size, locks in [(1, 2), (2, 0), (2, 2), (3, 0), (3, 1)]:
            family = some(family_of(size), 13)
            table = telling_table(family, size, locks)
            self.assertEqual(len(table), len(family))
            lists = classes(family, size, locks)
            self.assertEqual(sorted(place for places in lists for place in places), list(range(len(family))))
            self.assertEqual(lists, sorted(sorted(places) for places in lists))
            for one, other in product(range(len(family)), repeat=2):
                together = any(one in places and other in places for places in lists)
                self.assertIs(same(family[one], family[other], size, locks), together)
                self.assertEqual(table[one][other], table[other][one])
                if together:
                    self.assertIsNone(table[one][other])
                else:
                    self.assertEqual(telling_hall(family[one], family[other], size, locks)[1], table[one][other])

    def test_families_of_40(self):
        for size in (2, 3):
            family = family_of(size)
            self.assertEqual(len(telling_table(family, size, 2)), 40)
            self.assertEqual(sum(map(len, classes(family, size, 2))), 40)

    def test_rows_are_new(self):
        table = telling_table([FIRST, LAST, FIRST], 2, 0)
        table[0][1] = None
        self.assertEqual(table[1:], [[0, None, 0], [None, 0, None]])
        classes([FIRST, FIRST], 2, 0)[0].append(2)
        self.assertEqual(classes([FIRST, FIRST], 2, 0), [[0, 1]])


class ChecksTest(unittest.TestCase):
    NO_SIZES = [0, -1, 4, 5] + NO_INTEGERS
    NO_LOCKS = [-1, 3] + NO_INTEGERS

    def test_two_schedulers(self):
        for function in (same, telling_hall):
            raises_in_order(self, function, (FIRST, LAST, 2, 0), [
                (2, self.NO_SIZES, BadNumber), (0, NO_SCHEDULERS, BadScheduler), (1, NO_SCHEDULERS, BadScheduler),
                (3, self.NO_LOCKS, BadNumber),
            ])
            self.assertRaises(BadScheduler, function, ("due", (1, 1)), LAST, 3, 0)
            self.assertRaises(BadScheduler, function, FIRST, ("due", (1, 1, 1)), 2, 0)

    def test_a_family(self):
        for function in (classes, telling_table):
            raises_in_order(self, function, ([FIRST, LAST], 2, 0), [
                (1, self.NO_SIZES, BadNumber), (0, NO_FAMILIES, BadScheduler), (2, self.NO_LOCKS, BadNumber),
            ])
            self.assertRaises(BadScheduler, function, [FIRST, ("due", (1, 1))], 3, 0)

    def test_more_than_the_most_states_are_not_found(self):
        one, other = ("rounds", 1, 0), ("levels", (1,), 0)
        many = games.count_states(one, 2, 1)
        for most, error in [(many, None), (many - 1, NotFound)]:
            with mock.patch.object(games, "MOST_STATES", most):
                if error is None:
                    self.assertIs(same(one, other, 2, 1), True)
                else:
                    self.assertRaises(error, same, one, other, 2, 1)

    def test_all_are_defined_in_telling(self):
        for function in [same, telling_hall, classes, telling_table]:
            self.assertEqual(function.__module__, telling.__name__)


if __name__ == "__main__":
    unittest.main()
