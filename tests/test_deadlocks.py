"""The interface of processturns/deadlocks.py."""

import unittest
from itertools import product
from math import factorial
from unittest import mock

from counted import PARTS, hall_by_number, schedulers_of, short_halls, some
from plain_halls import all_orders, plain_units, rows_of_locks
from plain import PlainHall
from processturns import deadlocks, games
from processturns.deadlocks import (
    can_deadlock, can_stick, count_ways, is_ordered, stuck_places, sticking_hall, way_to_deadlock,
)
from processturns.errors import BadHall, BadNumber, BadScheduler, NotFound
from processturns.halls import is_hall
from processturns.machine import machine_for
from refusals import raises_in_order
from values import GIVE_0, GIVE_1, H, NO_HALLS, NO_INTEGERS, NO_SCHEDULERS, TAKE_0, TAKE_1

FIRST, LAST = ("first",), ("last",)
PLAIN, LENT = ("plain",), ("lent",)
UP = [TAKE_0, TAKE_1, GIVE_1, GIVE_0]
DOWN = [TAKE_1, ("work", 3), TAKE_0, GIVE_1, ("work", 1), GIVE_0]
OF_HALLS = [stuck_places, can_deadlock, way_to_deadlock, count_ways, is_ordered]


def hall(*programs):
    return [(0, program) for program in programs]


def has_ring(machine):
    """Two processes wait, each for the lock that the other one holds."""
    posts, holders, _ = machine.state
    if None in holders or holders[0] == holders[1]:
        return False
    return [machine.words()[holder] for holder in holders] == ["waits", "waits"]


def first_ring(scheduler, given, most):
    """The first unit at whose end there is a ring in the run of a hall, None if there is none in so many units."""
    machine = machine_for(scheduler, given)
    for unit in range(most):
        machine.tick()
        if has_ring(machine):
            return unit
    return None


def plain_first_ring(scheduler, size):
    """The same in all halls with two locks, by the second way."""
    start = PlainHall(scheduler, size)
    level, seen, unit = [start], {start.key()}, 0
    while level:
        further = []
        for plain in level:
            for _, _, _, _, done, _ in plain_units(plain, {0: 0, 1: 0}, 2, 0):
                both = [done.holder[0], done.holder[1]]
                if None not in both and [done.wants[who] for who in both] == [1, 0]:
                    if [done.word[who] for who in both] == ["waits", "waits"]:
                        return unit
                if done.key() not in seen:
                    seen.add(done.key())
                    further.append(done)
        level, unit = further, unit + 1
    return None


class StickTest(unittest.TestCase):
    def test_rings_need_two_locks_and_two_processes(self):
        for size in (1, 2, 3):
            for scheduler in some(schedulers_of(size), 20):
                for locks in (0, 1) if size > 1 else (0, 1, 2):
                    self.assertIs(can_stick(scheduler, size, locks), False)
                    self.assertRaises(NotFound, sticking_hall, scheduler, size, locks)

    def test_one_that_runs_until_it_leaves_never_waits(self):
        for size in (2, 3):
            order = tuple(range(size))
            for scheduler in [FIRST, ("order", order, 0, PLAIN), ("order", order, 0, LENT), ("due", (4,) * size)]:
                self.assertIs(can_stick(scheduler, size, 2), False)

    def test_one_that_takes_goes_on_with_the_best_top(self):
        for size in (2, 3):
            order = tuple(range(size))
            # One with a lock is never taken away. Where only lock 0 is such, one with lock 1 is, and asks for 0 then.
            self.assertIs(can_stick(("order", order, 1, ("top", (0, 0))), size, 2), False)
            self.assertIs(can_stick(("order", order, 1, ("top", (0, size - 1))), size, 2), True)
            self.assertIs(can_stick(("order", order, 1, ("top", (size - 1, size - 1))), size, 2), True)

    def test_earliest_ring(self):
        # Unit 0: 0 takes. Unit 1: 1 comes and takes. Then both ask in vain.
        for size in (2, 3):
            for scheduler in [LAST, ("order", tuple(range(size))[::-1], 1, PLAIN), ("rounds", 1, 0), ("rounds", 1, 1)]:
                self.assertEqual(sticking_hall(scheduler, size, 2)[1], 3, scheduler)
        # One takes in its last unit of the quantum; the other one, then, has as many units.
        self.assertEqual(sticking_hall(("rounds", 2, 0), 2, 2)[1], 4)
        self.assertEqual(sticking_hall(("rounds", 3, 0), 2, 2)[1], 5)

    def test_the_hall_is_as_told(self):
        found = 0
        for size in (2, 3):
            for scheduler in schedulers_of(size):
                if not can_stick(scheduler, size, 2):
                    self.assertRaises(NotFound, sticking_hall, scheduler, size, 2)
                    continue
                given, unit = sticking_hall(scheduler, size, 2)
                self.assertIs(is_hall(given), True)
                self.assertEqual(len(given), size)
                self.assertEqual(first_ring(scheduler, given, unit + 1), unit, (scheduler, given))
                found += 1
        self.assertGreater(found, 100)

    def test_no_other_hall_sticks_earlier(self):
        for size, halls in [(2, short_halls()), (3, [hall_by_number(number, 3) for number in range(200)])]:
            for scheduler in some(schedulers_of(size), 16):
                unit = sticking_hall(scheduler, size, 2)[1] if can_stick(scheduler, size, 2) else 60
                for given in halls:
                    self.assertIsNone(first_ring(scheduler, given, unit), (scheduler, given))

    def test_as_early_as_by_the_second_way(self):
        for size, many in [(2, 40), (3, 5)]:
            for scheduler in some(schedulers_of(size), many):
                unit = plain_first_ring(scheduler, size)
                self.assertIs(can_stick(scheduler, size, 2), unit is not None, scheduler)
                if unit is not None:
                    self.assertEqual(sticking_hall(scheduler, size, 2)[1], unit)

    def test_more_than_the_most_states_are_not_found(self):
        for most in (16, 17):
            # First leads to 17 states, none of them with a ring.
            with mock.patch.object(games, "MOST_STATES", most):
                if most == 17:
                    self.assertIs(can_stick(FIRST, 2, 2), False)
                else:
                    self.assertRaises(NotFound, can_stick, FIRST, 2, 2)
                    self.assertRaises(NotFound, sticking_hall, FIRST, 2, 2)

    def test_arguments(self):
        for function, locks in [(can_stick, 1), (sticking_hall, 2)]:
            raises_in_order(self, function, (LAST, 2, locks), [
                (1, [0, -1, 4, 5] + NO_INTEGERS, BadNumber), (0, NO_SCHEDULERS, BadScheduler),
                (2, [-1, 3] + NO_INTEGERS, BadNumber),
            ])


class InterleavingsTest(unittest.TestCase):
    def as_by_all_orders(self, given):
        orders = all_orders(given)
        stuck = [(way, places) for way, places, done in orders if not done]
        self.assertEqual(stuck_places(given), sorted({places for _, places in stuck}), given)
        self.assertIs(can_deadlock(given), bool(stuck), given)
        self.assertEqual(count_ways(given), (len(orders) - len(stuck), len(stuck)), given)
        if stuck:
            way = way_to_deadlock(given)
            self.assertIn(way, [order for order, _ in stuck])
            self.assertEqual(len(way), min(len(order) for order, _ in stuck))
        else:
            self.assertRaises(NotFound, way_to_deadlock, given)

    def test_example_of_the_document(self):
        self.assertIs(can_deadlock(hall([TAKE_0, GIVE_0])), False)

    def test_two_that_cross(self):
        given = hall(UP, DOWN)
        self.assertEqual(stuck_places(given), [(1, 1)])
        self.assertIs(can_deadlock(given), True)
        self.assertIn(way_to_deadlock(given), [[0, 1], [1, 0]])
        # 0 first, and 1 takes lock 1 before or behind the last giving; or 1 first. The deadlock, by either one first.
        self.assertEqual(count_ways(given), (3, 2))

    def test_others_stand_where_they_hold_nothing(self):
        given = hall(UP, [TAKE_0, GIVE_0, TAKE_1, GIVE_1], DOWN)
        self.assertEqual(stuck_places(given), [(1, 0, 1), (1, 2, 1), (1, 4, 1)])
        self.assertEqual(len(way_to_deadlock(given)), 2)

    def test_without_locks(self):
        for given in [H, hall([]), hall([], [], [("sleep", 3)], [("work", 99)])]:
            self.assertEqual(stuck_places(given), [])
            self.assertIs(can_deadlock(given), False)
            self.assertEqual(count_ways(given), (1, 0))
            self.assertRaises(NotFound, way_to_deadlock, given)

    def test_one_process_never_sticks(self):
        self.assertEqual(count_ways(hall(UP + DOWN)), (1, 0))
        self.assertEqual(stuck_places(hall(UP + DOWN)), [])

    def test_times_work_and_sleep_do_not_matter(self):
        given = [(0, [("sleep", 3)] + UP), (99, [("work", 2)] + DOWN + [("sleep", 1)])]
        self.assertEqual(stuck_places(given), [(1, 1)])
        self.assertEqual(count_ways(given), (3, 2))

    def test_first_done_and_then_stuck(self):
        # 0 takes both ways; the second of its parts crosses with that of 1.
        given = hall(UP + DOWN[:1] + DOWN[2:], UP)
        self.assertEqual(stuck_places(given), [(5, 1)])
        self.assertEqual(len(way_to_deadlock(given)), 6)

    def test_all_pairs_of_parts(self):
        for one, other in product(PARTS, repeat=2):
            self.as_by_all_orders(hall(one, other))

    def test_many_halls(self):
        tried = 0
        for size in (1, 2, 3, 4):
            for number in range(300):
                given = hall_by_number(number, size)
                if sum(map(len, rows_of_locks(given))) <= 14:
                    self.as_by_all_orders(given)
                    tried += 1
        self.assertGreater(tried, 300)

    def test_three_and_four_that_cross(self):
        self.as_by_all_orders(hall(UP, DOWN, UP))
        self.as_by_all_orders(hall(UP, [TAKE_0, GIVE_0], DOWN, [TAKE_1, GIVE_1]))
        self.as_by_all_orders(hall(DOWN, [TAKE_1, GIVE_1], [TAKE_0, TAKE_1, GIVE_0, GIVE_1], DOWN))
        # Lock 1 is given and taken again while 0 is held.
        again = [TAKE_1, TAKE_0, GIVE_1, TAKE_1, GIVE_0, GIVE_1]
        self.as_by_all_orders(hall(again, DOWN))
        self.as_by_all_orders(hall(again, UP))
        self.as_by_all_orders(hall(again, again))

    def test_the_longest_programs(self):
        # 20 of each of 4 processes, none beside another one: whole parts in any order.
        given = hall(*[[TAKE_0, GIVE_0] * 20] * 2)
        self.assertEqual(count_ways(given), (factorial(40) // factorial(20) ** 2, 0))
        self.assertIs(can_deadlock(hall(*[[TAKE_0, GIVE_0] * 20] * 4)), False)
        given = hall(*[UP * 10, [TAKE_1, TAKE_0, GIVE_0, GIVE_1] * 10] * 2)
        self.assertIs(can_deadlock(given), True)
        self.assertEqual(len(way_to_deadlock(given)), 2)
        # A ring is of one that goes up and one that goes down, in any of their parts; the others are between parts.
        self.assertEqual(len(stuck_places(given)), 4 * 10 * 10 * 11 * 11)

    def test_ordered(self):
        for given, expected in [
            (hall(UP), True), (hall(UP, UP), True), (hall(DOWN, DOWN), True), (hall(UP, DOWN), False),
            (hall(UP + DOWN), False), (hall([], [TAKE_0, GIVE_0, TAKE_1, GIVE_1]), True), (H, True),
            (hall([TAKE_0, TAKE_1, GIVE_0, TAKE_0, GIVE_0, GIVE_1]), False),
            (hall(UP, [TAKE_1, GIVE_1, TAKE_0, GIVE_0], UP, DOWN), False),
        ]:
            self.assertIs(is_ordered(given), expected, given)

    def test_ordered_halls_have_no_deadlock(self):
        for size in (2, 3, 4):
            for number in range(300):
                given = hall_by_number(number, size)
                if is_ordered(given):
                    self.assertIs(can_deadlock(given), False)

    def test_no_ring_in_any_run_where_there_is_no_deadlock(self):
        for given in some(short_halls(), 200):
            rings = [first_ring(scheduler, given, 40) for scheduler in some(schedulers_of(2), 8)]
            if not can_deadlock(given):
                self.assertEqual(set(rings), {None})

    def test_arguments(self):
        for function in OF_HALLS:
            for value in NO_HALLS:
                self.assertRaises(BadHall, function, value)

    def test_lists_are_new(self):
        given = hall(UP, DOWN)
        stuck_places(given).clear()
        way_to_deadlock(given).clear()
        self.assertEqual(stuck_places(given), [(1, 1)])
        self.assertEqual(len(way_to_deadlock(given)), 2)

    def test_all_are_defined_in_deadlocks(self):
        for function in OF_HALLS + [can_stick, sticking_hall]:
            self.assertEqual(function.__module__, deadlocks.__name__)


if __name__ == "__main__":
    unittest.main()
