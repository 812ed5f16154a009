"""Point [5], as far as states go, and the interface of processturns/games.py."""

import unittest
from itertools import permutations
from unittest import mock

from counted import hall_by_number, schedulers_of, short_halls, some
from plain import plain_states
from processturns import games
from processturns.choosers import chooser_for
from processturns.errors import BadNumber, BadScheduler, NotFound
from processturns.games import all_states, count_states
from processturns.halls import hall_locks
from processturns.machine import machine_for
from processturns.posts import ready_slots
from processturns.running import run
from values import GIVE_0, NO_INTEGERS, NO_SCHEDULERS, TAKE_0

FIRST, LAST = ("first",), ("last",)
PLAIN = ("plain",)


class CountStatesTest(unittest.TestCase):
    def test_one_process(self):
        # Away, or ready and holding some of the locks.
        for scheduler in [FIRST, LAST, ("order", (0,), 0, PLAIN), ("rounds", 1, 0), ("aging", (0,), 3),
                          ("shares", (4,))]:
            self.assertEqual([count_states(scheduler, 1, locks) for locks in (0, 1, 2)], [2, 3, 5], scheduler)

    def test_first(self):
        # Only the first one of the queue ever holds locks, and nobody asks in vain:
        # two processes stand in 4 ways in a queue that is not empty, three in 15.
        self.assertEqual([count_states(FIRST, 2, locks) for locks in (0, 1, 2)], [1 + 4, 1 + 8, 1 + 16])
        self.assertEqual([count_states(FIRST, 3, locks) for locks in (0, 1, 2)], [1 + 15, 1 + 30, 1 + 60])

    def test_units_of_the_first_one_count(self):
        self.assertEqual(count_states(("rounds", 4, 0), 1, 0), 1 + 4)
        # Late, it stands there with the 4 units that it ran, and never with none.
        self.assertEqual(count_states(("rounds", 4, 1), 1, 0), 1 + 4)
        # It is never ready at the end of a unit without having run: with 1 unit in the first queue, else 0 to 2.
        self.assertEqual(count_states(("levels", (2, 3), 0), 1, 0), 1 + 1 + 3)

    def test_units_up_to_being_due(self):
        # A process with the limit 3 is away, or has 2, 1, 0 or -1 units left.
        self.assertEqual(count_states(("due", (3,)), 1, 0), 5)
        self.assertEqual(count_states(("due", (6,)), 1, 0), 8)

    def test_accounts_less_the_least_one(self):
        # Nobody, one alone; both equal, or 0 by one unit ahead.
        self.assertEqual(count_states(("shares", (1, 1)), 2, 0), 5)

    def test_what_no_longer_counts_is_forgotten(self):
        # One that keeps: nobody; 0 or 1 ready, having run or after the other left; both, 0 or 1 having run.
        self.assertEqual(count_states(("order", (0, 1), 0, PLAIN), 2, 0), 7)

    def test_one_that_ran_last_and_never_counts_is_forgotten(self):
        # Plain places differ, and so do lent ones of those ready: each process is away or ready.
        for size in (1, 2, 3):
            for order in permutations(range(size)):
                for rule in (PLAIN, ("lent",)):
                    self.assertEqual(count_states(("order", order, 1, rule), size, 0), 2 ** size)
        self.assertEqual(count_states(("order", (1, 0, 2), 1, PLAIN), 3, 0), 8)

    def test_one_that_ran_last_counts_among_equal_places(self):
        # 1 and, with the lock, 0 are at place 0: 0 runs on if it ran last, else 1, which is better by the order.
        # With a lock: 0 or 1 holds it, alone or beside the other one; or 0 has given it, and 1 came before.
        for locks, many in [(0, 5), (1, 5 + 4 + 1)]:
            self.assertEqual(count_states(("order", (1, 0), 1, ("top", (0, 0))), 2, locks), many)
        hall = [(0, [TAKE_0, ("work", 2), GIVE_0]), (1, [("work", 1)])]
        self.assertEqual(run(("order", (1, 0), 1, ("top", (0, 0))), hall, 9), [0, 0, 0, 0, 1, 1, 0])
        self.assertEqual(run(("order", (1, 0), 1, ("lent",)), hall, 9), [0, 1, 1, 0, 0, 0, 0])

    def test_lent_places_of_those_ready_are_never_equal(self):
        for order in permutations(range(3)):
            chooser = chooser_for(("order", order, 1, ("lent",)))
            for posts, holders, _ in all_states(chooser, 3, 2):
                counting = chooser.places_that_count(posts, holders)
                ready = [counting[slot] for slot in ready_slots(posts)]
                self.assertEqual(len(set(ready)), len(ready), (order, posts, holders))

    def test_the_clock_of_raising_counts_while_nobody_is_ready(self):
        # With a quantum of 1 and one queue, nothing else is known than who is ready.
        self.assertEqual(count_states(("levels", (1,), 5), 1, 0), 5 * 2)
        self.assertEqual(count_states(("levels", (1,), 0), 1, 0), 2)

    def test_alike_schedulers_have_as_many(self):
        for size in (1, 2, 3):
            for locks in (0, 1, 2):
                for quantum in (1, 3):
                    self.assertEqual(count_states(("rounds", quantum, 0), size, locks),
                                     count_states(("levels", (quantum,), 0), size, locks))

    def test_the_numbers_of_the_processes_do_not_matter(self):
        for size in (2, 3):
            up, down = tuple(range(size)), tuple(range(size))[::-1]
            for locks in (0, 1, 2):
                for kind in [lambda row: ("aging", row, 2), lambda row: ("order", row, 1, ("lent",)),
                             lambda row: ("order", row, 0, PLAIN), lambda row: ("order", row, 1, ("top", (0, 1)))]:
                    self.assertEqual(count_states(kind(up), size, locks), count_states(kind(down), size, locks))

    def test_as_many_as_by_the_second_way(self):
        for size, locks, many in [(1, 0, 40), (1, 1, 40), (1, 2, 40), (2, 0, 40), (2, 1, 40), (2, 2, 25), (3, 0, 25)]:
            for scheduler in some(schedulers_of(size), many):
                self.assertEqual(count_states(scheduler, size, locks),
                                 len(plain_states(scheduler, size, locks)), (scheduler, locks))

    def test_as_many_as_by_the_second_way_for_three_with_a_lock(self):
        for scheduler in [FIRST, LAST, ("order", (1, 2, 0), 1, ("lent",)), ("order", (0, 1, 2), 1, ("top", (0, 2))),
                          ("rounds", 2, 1), ("levels", (1, 2), 2), ("aging", (2, 0, 1), 1), ("due", (2, 1, 3)),
                          ("shares", (2, 1, 3))]:
            self.assertEqual(count_states(scheduler, 3, 1), len(plain_states(scheduler, 3, 1)), scheduler)


class AllStatesTest(unittest.TestCase):
    def states_of_halls(self, scheduler, halls):
        for hall in halls:
            machine = machine_for(scheduler, hall)
            yield hall, machine.state
            for _ in range(30):
                machine.tick()
                yield hall, machine.state

    def test_all_halls_lead_to_no_others(self):
        for scheduler in some(schedulers_of(2), 30):
            found = {locks: set(all_states(chooser_for(scheduler), 2, locks)) for locks in (0, 1, 2)}
            for hall, state in self.states_of_halls(scheduler, some(short_halls(), 90)):
                locks = max(hall_locks(hall), default=-1) + 1
                self.assertIn(state, found[locks], (scheduler, hall))

    def test_three_processes(self):
        for scheduler in some(schedulers_of(3), 12):
            found = set(all_states(chooser_for(scheduler), 3, 2))
            for hall, state in self.states_of_halls(scheduler, [hall_by_number(n, 3) for n in range(40)]):
                self.assertIn(state, found, (scheduler, hall))

    def test_halls_lead_to_all_of_them(self):
        # Halls with only work and sleep, without locks: all states are soon seen.
        parts = [("work", 1), ("sleep", 1), ("sleep", 2)]
        programs = [[], *[[a] for a in parts], *[[a, b] for a in parts for b in parts]]
        halls = [[(0, one), (time, other)] for time in range(4) for one in programs for other in programs]
        halls += [[other, one] for one, other in halls]
        for scheduler in [FIRST, LAST, ("order", (0, 1), 0, PLAIN), ("order", (1, 0), 1, PLAIN), ("rounds", 2, 0),
                          ("rounds", 1, 1), ("levels", (1, 1), 0), ("shares", (1, 2))]:
            seen = {state for _, state in self.states_of_halls(scheduler, halls)}
            self.assertEqual(seen, set(all_states(chooser_for(scheduler), 2, 0)), scheduler)


class MostStatesTest(unittest.TestCase):
    def test_more_than_the_most_are_not_found(self):
        self.assertEqual(games.MOST_STATES, 40000)
        for most, scheduler, size, locks in [(15, LAST, 2, 1), (61, FIRST, 3, 2), (2, FIRST, 1, 0)]:
            with mock.patch.object(games, "MOST_STATES", most):
                self.assertEqual(count_states(scheduler, size, locks), most)
            with mock.patch.object(games, "MOST_STATES", most - 1):
                self.assertRaises(NotFound, count_states, scheduler, size, locks)

    def test_many_states_are_counted(self):
        self.assertEqual(count_states(("aging", (0, 1, 2), 3), 3, 2), 12940)


class ChecksTest(unittest.TestCase):
    def test_sizes(self):
        for size in [0, -1, 4, 5] + NO_INTEGERS:
            self.assertRaises(BadNumber, count_states, FIRST, size, 0)
            self.assertRaises(BadNumber, count_states, None, size, 0)
            self.assertRaises(BadNumber, count_states, None, size, 3)

    def test_schedulers(self):
        for scheduler in NO_SCHEDULERS:
            self.assertRaises(BadScheduler, count_states, scheduler, 2, 0)
            self.assertRaises(BadScheduler, count_states, scheduler, 2, 3)
        self.assertRaises(BadScheduler, count_states, ("due", (1, 1)), 3, 0)

    def test_locks(self):
        for locks in [-1, 3] + NO_INTEGERS:
            self.assertRaises(BadNumber, count_states, FIRST, 2, locks)

    def test_it_is_defined_in_games(self):
        self.assertEqual(count_states.__module__, games.__name__)


if __name__ == "__main__":
    unittest.main()
