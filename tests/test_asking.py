"""The interface of processturns/asking.py."""

import unittest
from itertools import combinations, product

from counted import family_of, hall_by_number, short_halls, some
from processturns import asking
from processturns.asking import best_hall, halls_needed, plan, plan_depth, told_apart
from processturns.errors import BadNumber, BadRecord, BadScheduler, NotFound
from processturns.reading import groups
from processturns.running import run
from processturns.schedulers import plain_family
from refusals import raises_in_order
from values import GIVE_0, H, NO_FAMILIES, NO_HALLS, NO_LISTS, NO_UNITS, TAKE_0

FIRST, LAST = ("first",), ("last",)
KEEPS, TAKES = ("order", (1, 0), 0, ("plain",)), ("order", (1, 0), 1, ("plain",))
ALL = [best_hall, told_apart, halls_needed, plan_depth, plan]

ALONE = [(0, [("work", 2)]), (5, [])]
BOTH = [(0, []), (0, [])]
TURNS = [(0, [("work", 4)]), (0, [("work", 4)])]


def depth_by_trying(runs, places):
    """The least worst number of halls to ask, by trying all trees of halls."""
    found = []
    for row in runs:
        parts = {}
        for place in places:
            parts.setdefault(row[place], []).append(place)
        if len(parts) > 1:
            found.append(1 + max(depth_by_trying(runs, part) for part in parts.values()))
    return min(found, default=0)


class BestHallTest(unittest.TestCase):
    def test_the_greatest_group_is_least(self):
        self.assertEqual(best_hall([FIRST, LAST], [ALONE, H], 9), 1)
        self.assertEqual(best_hall([FIRST, LAST, KEEPS, TAKES], [ALONE, H, BOTH], 9), 1)
        # By BOTH there are groups of 1 and 3, by H of 2 and 2.
        self.assertEqual(groups([FIRST, LAST, KEEPS, TAKES], BOTH, 9), [[0], [1, 2, 3]])
        self.assertEqual(groups([FIRST, LAST, KEEPS, TAKES], H, 9), [[0, 2], [1, 3]])
        self.assertEqual(best_hall([FIRST, LAST, KEEPS, TAKES], [BOTH, H], 9), 1)

    def test_the_first_of_several(self):
        self.assertEqual(best_hall([FIRST, LAST], [ALONE, H, BOTH], 9), 1)
        self.assertEqual(best_hall([FIRST, LAST], [H, ALONE, H], 9), 0)
        self.assertEqual(best_hall([FIRST, FIRST], [ALONE, H], 9), 0)

    def test_up_to_so_many_units(self):
        self.assertEqual(best_hall([FIRST, LAST], [H, BOTH], 0), 0)
        self.assertEqual(best_hall([FIRST, LAST], [H, BOTH], 1), 1)
        self.assertEqual(best_hall([FIRST, LAST], [H, BOTH], 2), 0)

    def test_as_by_groups(self):
        for size in (1, 2, 3, 4):
            family = some(family_of(size), 20)
            halls = [hall_by_number(number, size) for number in range(8)]
            for most in (2, 9, 60):
                sizes = [max(map(len, groups(family, hall, most))) for hall in halls]
                self.assertEqual(best_hall(family, halls, most), sizes.index(min(sizes)))


class ToldApartTest(unittest.TestCase):
    def test_by_all_halls_together(self):
        family = [FIRST, LAST, KEEPS, TAKES]
        self.assertEqual(told_apart(family, [ALONE], 9), [[0, 1, 2, 3]])
        self.assertEqual(told_apart(family, [BOTH], 9), [[0], [1, 2, 3]])
        self.assertEqual(told_apart(family, [BOTH, H], 9), [[0], [1, 3], [2]])
        self.assertEqual(told_apart(family[::-1], [H, BOTH], 9), [[0, 2], [1], [3]])

    def test_by_pairs(self):
        for size in (2, 3, 4):
            family = family_of(size)
            halls = [hall_by_number(number, size) for number in range(3)]
            for most in (3, 30):
                lists = told_apart(family, halls, most)
                self.assertEqual(lists, sorted(sorted(places) for places in lists))
                for one, other in combinations(range(40), 2):
                    together = any(one in places and other in places for places in lists)
                    alike = all(run(family[one], hall, most) == run(family[other], hall, most) for hall in halls)
                    self.assertIs(together, alike)


class HallsNeededTest(unittest.TestCase):
    def test_none_is_needed_where_none_tells(self):
        self.assertEqual(halls_needed([FIRST, LAST], [ALONE], 9), [])
        self.assertEqual(halls_needed([FIRST], [H, BOTH], 9), [])
        self.assertEqual(halls_needed([FIRST, LAST], [H, BOTH], 0), [])

    def test_least_of_the_shortest(self):
        family = [FIRST, LAST, KEEPS, TAKES]
        self.assertEqual(halls_needed(family, [ALONE, BOTH, H], 9), [1, 2])
        self.assertEqual(halls_needed(family, [H, BOTH, H, BOTH], 9), [0, 1])
        self.assertEqual(halls_needed([FIRST, LAST], [ALONE, H, BOTH], 9), [1])
        self.assertEqual(halls_needed([FIRST, LAST], [BOTH] * 8, 9), [0])

    def test_all_can_be_needed(self):
        # In each hall 0 comes together with just one of the others, which is the best for just one scheduler.
        halls = [[(0 if slot in (0, other) else 5 * slot, []) for slot in range(4)] for other in (1, 2, 3)]
        family = [("order", order, 1, ("plain",)) for order in [
            (0, 1, 2, 3), (1, 0, 2, 3), (2, 0, 1, 3), (3, 0, 1, 2),
        ]]
        self.assertEqual(halls_needed(family, halls, 20), [0, 1, 2])

    def test_by_trying_all_lists(self):
        for size, shift in [(2, 0), (2, 40), (3, 0), (3, 70), (4, 5)]:
            family = some(family_of(size), 13)
            halls = [hall_by_number(number + shift, size) for number in range(6)]
            for most in (2, 6, 40):
                lists = [list(row) for many in range(7) for row in combinations(range(6), many)]
                whole = len(told_apart(family, halls, most))
                fits = [
                    row for row in lists
                    if (len(told_apart(family, [halls[at] for at in row], most)) if row else 1) == whole
                ]
                self.assertEqual(halls_needed(family, halls, most), min(fits, key=lambda row: (len(row), row)))


class PlanTest(unittest.TestCase):
    def fits(self, told, family, halls, most, places, depth):
        """The plan is as told for these places; each part asks as few halls as it can, and the first such one."""
        runs = [[tuple(run(scheduler, hall, most)) for scheduler in family] for hall in halls]
        self.assertEqual(depth_by_trying(runs, places), depth)
        self.assertIs(told.__class__, tuple)
        if told[0] == "left":
            self.assertEqual((told, depth), (("left", places), 0))
            return
        word, asked, parts = told
        self.assertEqual((word, parts.__class__), ("ask", list))
        costs = []
        for row in runs:
            split = [[place for place in places if row[place] == sign] for sign in dict.fromkeys(row[p] for p in places)]
            worth = 1 + max(depth_by_trying(runs, part) for part in split)
            costs.append(worth if len(split) > 1 else None)
            if len(costs) == asked + 1:
                self.assertEqual(len(parts), len(split))
                for part, group in zip(parts, split):
                    self.fits(part, family, halls, most, group, depth_by_trying(runs, group))
        self.assertEqual(costs.index(depth), asked)

    def test_example_of_the_document(self):
        self.assertEqual(plan_depth([FIRST, LAST], [H], 9), 1)
        self.assertEqual(plan([FIRST, LAST], [H], 9), ("ask", 0, [("left", [0]), ("left", [1])]))

    def test_nothing_to_tell(self):
        self.assertEqual(plan_depth([FIRST, LAST], [ALONE], 9), 0)
        self.assertEqual(plan([FIRST, LAST], [ALONE], 9), ("left", [0, 1]))
        self.assertEqual(plan([FIRST], [H, BOTH], 9), ("left", [0]))
        self.assertEqual(plan([FIRST, LAST], [H], 0), ("left", [0, 1]))

    def test_the_next_hall_is_chosen_by_the_run(self):
        family = [FIRST, LAST, KEEPS, TAKES]
        self.assertEqual(plan_depth(family, [ALONE, BOTH, H], 9), 2)
        self.assertEqual(plan(family, [ALONE, BOTH, H], 9), (
            "ask", 1, [("left", [0]), ("ask", 2, [("left", [1, 3]), ("left", [2])])],
        ))
        self.assertEqual(plan(family, [H, ALONE, BOTH], 9), (
            "ask", 0, [("ask", 2, [("left", [0]), ("left", [2])]), ("left", [1, 3])],
        ))

    def test_the_first_hall_that_is_in_a_least_plan(self):
        self.assertEqual(plan([FIRST, LAST], [ALONE, H, BOTH], 9)[1], 1)
        # H and TURNS tell all apart at once; BOTH tells only of LAST, so it is in no least plan.
        family = [("rounds", 1, 0), ("rounds", 2, 0), ("rounds", 3, 0), LAST]
        told = [("left", [place]) for place in range(4)]
        self.assertEqual(plan(family, [BOTH, TURNS, H], 12), ("ask", 1, told))
        self.assertEqual(plan(family, [BOTH, ALONE, H, TURNS], 12), ("ask", 2, told))

    def test_by_trying_all_trees(self):
        for size, shift in [(1, 0), (2, 0), (2, 30), (3, 0), (3, 60), (4, 9)]:
            family = some(family_of(size), 12)[:12]
            halls = [hall_by_number(number + shift, size) for number in range(4)]
            for most in (1, 3, 5, 40):
                depth = plan_depth(family, halls, most)
                self.fits(plan(family, halls, most), family, halls, most, list(range(len(family))), depth)

    def test_all_plain_orders(self):
        family = plain_family(2)
        for halls in [some(short_halls(), 8)[:8], [TURNS, H, BOTH], [H, BOTH, ALONE, TURNS, [(1, []), (0, [("work", 3)])]]]:
            for most in (2, 4, 9):
                depth = plan_depth(family, halls, most)
                self.fits(plan(family, halls, most), family, halls, most, list(range(12)), depth)

    def test_the_greatest_family(self):
        halls = [hall_by_number(number, 3) for number in range(8)]
        family = family_of(3)
        for function in (plan_depth, plan):
            function(family[:12], halls, 60)
            for many in (13, 40):
                self.assertRaises(NotFound, function, family[:many], halls, 60)
            # What is not valid is told before.
            self.assertRaises(BadNumber, function, family, halls, 201)
            self.assertRaises(BadScheduler, function, family + [FIRST], halls, 60)

    def test_the_lists_are_new(self):
        told = plan([FIRST, LAST], [ALONE], 9)
        told[1].append(2)
        self.assertEqual(plan([FIRST, LAST], [ALONE], 9), ("left", [0, 1]))
        told = plan([FIRST, LAST], [H], 9)
        told[2].clear()
        self.assertEqual(plan([FIRST, LAST], [H], 9), ("ask", 0, [("left", [0]), ("left", [1])]))


class ChecksTest(unittest.TestCase):
    def test_arguments(self):
        no_halls = NO_LISTS + [[], [H] * 9, [H, H[:1]], [H, H + H[:1]], (H,), H] + [
            halls for hall in NO_HALLS for halls in ([hall], [H, hall], [hall, H])
        ]
        for function in ALL:
            raises_in_order(self, function, ([FIRST, LAST], [H, ALONE], 9), [
                (1, no_halls, BadRecord), (0, NO_FAMILIES, BadScheduler), (2, NO_UNITS, BadNumber),
            ], few=2)

    def test_halls_of_all_sizes(self):
        for function, size, many in product(ALL, (1, 2, 3, 4), (1, 8)):
            halls = [hall_by_number(number, size) for number in range(many)]
            function([FIRST, LAST], halls, 20)
            function([("due", (1,) * size)], halls, 200)
            self.assertRaises(BadScheduler, function, [("due", (1,) * (size + 1))], halls, 20)

    def test_locks_do_not_matter(self):
        hall = [(0, [TAKE_0, ("work", 3), GIVE_0]), (1, [TAKE_0, GIVE_0])]
        self.assertEqual(told_apart([FIRST, LAST, ("rounds", 1, 0)], [hall], 30), [[0], [1], [2]])

    def test_all_are_defined_in_asking(self):
        for function in ALL:
            self.assertEqual(function.__module__, asking.__name__)


if __name__ == "__main__":
    unittest.main()
