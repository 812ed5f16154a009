"""Points [3] and [4]: halls whose runs would be others if a sentence were read otherwise."""

import unittest

from processturns.placing import AgingChooser
from processturns.running import log, run, status_rows
from values import GIVE_0, GIVE_1, H, TAKE_0, TAKE_1

PLAIN, LENT = ("plain",), ("lent",)
W1, W2, W3 = ("work", 1), ("work", 2), ("work", 3)
S1 = ("sleep", 1)


class SchedulingTest(unittest.TestCase):
    def runs(self, scheduler, hall, expected):
        self.assertEqual(run(scheduler, hall, 60), expected, scheduler)


class UnitsTest(SchedulingTest):
    def test_the_end_needs_a_unit(self):
        self.assertEqual(log(("first",), [(0, [])], 9), [(0, "leave")])
        self.assertEqual(log(("first",), [(0, [W2])], 9), [(0, "work"), (0, "work"), (0, "leave")])

    def test_nobody_runs_just_if_nobody_is_ready(self):
        self.assertEqual(log(("last",), [(2, []), (4, [])], 9), [
            (None, "none"), (None, "none"), (0, "leave"), (None, "none"), (1, "leave"),
        ])

    def test_a_sleep_ends_in_the_unit_with_this_number_plus_its_own(self):
        self.runs(("first",), [(0, [("sleep", 1)])], [0, 0])
        self.runs(("first",), [(1, [("sleep", 3), W1])], [None, 0, None, None, 0, 0])
        self.assertEqual(status_rows(("first",), [(0, [("sleep", 2)])], 9), [["ready"], ["away"], ["ready"]])

    def test_one_that_asks_in_vain_waits_and_does_the_same_deed_again(self):
        hall = [(0, [TAKE_0, W2, GIVE_0]), (1, [TAKE_0, GIVE_0])]
        self.assertEqual(log(("last",), hall, 20), [
            (0, "take"), (1, "ask"), (0, "work"), (0, "work"), (0, "give"), (1, "take"), (1, "give"),
            (1, "leave"), (0, "leave"),
        ])
        self.assertEqual(status_rows(("last",), hall, 6), [
            ["ready", "away"], ["ready", "ready"], ["ready", "waits"], ["ready", "waits"],
            ["ready", "waits"], ["ready", "ready"],
        ])

    def test_all_that_wait_are_ready_again_and_only_one_has_the_lock(self):
        # 1 and 2 ask in vain; both are ready again with the giving, and one asks in vain again.
        hall = [(0, [TAKE_0, W2, GIVE_0]), (1, [TAKE_0, W1, GIVE_0]), (1, [TAKE_0, GIVE_0])]
        self.assertEqual(log(("rounds", 1, 0), hall, 30), [
            (0, "take"), (0, "work"), (1, "ask"), (2, "ask"), (0, "work"), (0, "give"), (0, "leave"),
            (1, "take"), (2, "ask"), (1, "work"), (1, "give"), (1, "leave"),
            (2, "take"), (2, "give"), (2, "leave"),
        ])

    def test_the_locks_are_two(self):
        hall = [(0, [TAKE_0, W2, GIVE_0]), (1, [TAKE_1, GIVE_1]), (4, [TAKE_1, GIVE_1])]
        self.assertEqual(log(("last",), hall, 30)[:3], [(0, "take"), (1, "take"), (1, "give")])
        crossed = [(0, [TAKE_0, TAKE_1, GIVE_0, GIVE_1]), (1, [TAKE_1, TAKE_0, GIVE_0, GIVE_1])]
        self.assertEqual(log(("last",), crossed, 9), [(0, "take"), (1, "take"), (1, "ask"), (0, "ask")])

    def test_those_who_wait_for_the_other_lock_wait_on(self):
        hall = [(0, [TAKE_0, TAKE_1, W2, GIVE_0, W1, GIVE_1]), (1, [TAKE_1, GIVE_1])]
        self.assertEqual(log(("rounds", 1, 0), hall, 30), [
            (0, "take"), (0, "take"), (1, "ask"), (0, "work"), (0, "work"), (0, "give"), (0, "work"),
            (0, "give"), (0, "leave"), (1, "take"), (1, "give"), (1, "leave"),
        ])


class QueueTest(SchedulingTest):
    def test_example_of_the_document(self):
        self.assertEqual(run(("first",), H, 9), [0, 0, 0, 1, 1])
        self.runs(("last",), H, [0, 1, 1, 0, 0])

    def test_several_in_one_unit_join_in_ascending_order(self):
        self.runs(("first",), [(0, [])] * 4, [0, 1, 2, 3])
        self.runs(("last",), [(0, [])] * 4, [3, 2, 1, 0])

    def test_in_the_order_of_coming(self):
        self.runs(("first",), [(2, []), (1, []), (0, [W3])], [2, 2, 2, 2, 1, 0])

    def test_one_that_sleeps_joins_at_the_end(self):
        self.runs(("first",), [(0, [S1, W1]), (0, [W3])], [0, 1, 1, 1, 1, 0, 0])
        self.runs(("last",), [(0, [W3]), (0, [S1, W1])], [1, 1, 1, 0, 0, 0, 0])

    def test_those_ready_again_join_at_the_end_in_ascending_order(self):
        hall = [(2, [TAKE_0, GIVE_0]), (0, [TAKE_0, W3, GIVE_0, W1]), (1, [TAKE_0, GIVE_0])]
        # 2 asks before 0, and yet 0 joins before 2, so that 2 is the last one.
        self.runs(("last",), hall, [1, 2, 0, 1, 1, 1, 1, 2, 2, 2, 0, 0, 0, 1, 1])

    def test_those_ready_again_join_before_those_who_come_in_the_next_unit(self):
        hall = [(0, [TAKE_0, W1, GIVE_0]), (1, [TAKE_0, GIVE_0]), (4, [])]
        self.runs(("last",), hall, [0, 1, 0, 0, 2, 1, 1, 1, 0])


class OrderTest(SchedulingTest):
    def test_taking_and_keeping(self):
        hall = [(0, [W2]), (1, [W1])]
        self.runs(("order", (1, 0), 1, PLAIN), hall, [0, 1, 1, 0, 0])
        self.runs(("order", (1, 0), 0, PLAIN), hall, [0, 0, 0, 1, 1])
        self.runs(("order", (0, 1), 1, PLAIN), hall, [0, 0, 0, 1, 1])

    def test_the_order_is_the_best_first(self):
        self.runs(("order", (2, 0, 1), 1, PLAIN), [(0, [])] * 3, [2, 0, 1])
        self.runs(("order", (1, 2, 0), 0, PLAIN), [(0, [])] * 3, [1, 2, 0])

    def test_keeping_ends_with_leaving(self):
        # 1 sleeps and is there again in the next unit, yet it was not ready at the end of its unit.
        self.runs(("order", (0, 1), 0, PLAIN), [(1, [W1]), (0, [S1, W1])], [1, 0, 0, 1, 1])
        self.runs(("order", (0, 1), 0, PLAIN), [(2, [W1]), (0, [S1, W2])], [1, 1, 1, 1, 0, 0])

    def test_plain_places_do_not_change(self):
        hall = [(1, [TAKE_0, GIVE_0]), (1, [W1]), (0, [TAKE_0, W1, GIVE_0])]
        self.runs(("order", (0, 1, 2), 1, PLAIN), hall, [2, 0, 1, 1, 2, 2, 0, 0, 0, 2])


class LentTest(SchedulingTest):
    def test_one_that_holds_has_the_place_of_those_who_wait(self):
        hall = [(1, [TAKE_0, GIVE_0]), (1, [W1]), (0, [TAKE_0, W1, GIVE_0])]
        self.runs(("order", (0, 1, 2), 1, LENT), hall, [2, 0, 2, 2, 0, 0, 0, 1, 1, 2])

    def test_it_has_its_own_place_if_that_is_better(self):
        # The holder 0 is the best; 2, which waits for it, would be worse than 1.
        hall = [(0, [TAKE_0, W1, TAKE_1, GIVE_1, GIVE_0]), (3, [W1]), (1, [TAKE_1, TAKE_0, GIVE_0, GIVE_1])]
        self.runs(("order", (0, 1, 2), 1, LENT), hall, [0, 0, 0, 0, 0, 0, 1, 1, 2, 2, 2, 2, 2])

    def test_of_several_who_wait_the_best_lends(self):
        # 0 and 3 wait for the lock that 2 holds, and 1 works.
        hall = [(2, [TAKE_0, GIVE_0]), (2, [W1]), (0, [TAKE_0, W2, GIVE_0]), (1, [TAKE_0, GIVE_0])]
        self.runs(("order", (0, 1, 3, 2), 1, LENT), hall, [2, 3, 0, 2, 2, 2, 0, 0, 0, 1, 1, 3, 3, 3, 2])
        self.runs(("order", (3, 0, 1, 2), 1, LENT), hall, [2, 3, 2, 2, 2, 3, 3, 3, 0, 0, 0, 1, 1, 2])

    def test_places_are_lent_through_chains(self):
        for low, high in [(0, 1), (1, 0)]:
            hall = [
                (3, [("take", high), ("give", high)]), (3, [W1]),
                (1, [("take", high), ("take", low), ("give", low), ("give", high)]),
                (0, [("take", low), W1, ("give", low)]),
            ]
            self.runs(("order", (0, 1, 2, 3), 1, LENT), hall,
                      [3, 2, 2, 0, 3, 3, 2, 2, 2, 0, 0, 0, 1, 1, 2, 3])
            self.runs(("order", (0, 1, 2, 3), 1, PLAIN), hall,
                      [3, 2, 2, 0, 1, 1, 3, 3, 2, 2, 2, 0, 0, 0, 2, 3])

    def test_a_ring_of_those_who_wait_is_no_chain_without_end(self):
        hall = [(1, [TAKE_1, TAKE_0, GIVE_0, GIVE_1]), (0, [TAKE_0, W1, TAKE_1, GIVE_1, GIVE_0]), (6, [TAKE_0, GIVE_0])]
        self.runs(("order", (0, 1, 2), 1, LENT), hall, [1, 0, 0, 1, 1, None, 2])

    def test_one_that_is_ready_again_lends_no_more(self):
        # With the giving of 3, its place is its own again, although 0 asks for the lock only later.
        hall = [(1, [TAKE_0, GIVE_0]), (0, [TAKE_0, GIVE_0, W1]), (3, [])]
        self.runs(("order", (0, 2, 1), 1, LENT), hall, [1, 0, 1, 0, 0, 0, 2, 1, 1])


class TopTest(SchedulingTest):
    def test_one_that_holds_a_lock_has_its_place(self):
        hall = [(2, []), (1, [W1]), (0, [TAKE_0, W1, GIVE_0])]
        self.runs(("order", (0, 1, 2), 1, ("top", (0, 2))), hall, [2, 2, 2, 0, 1, 1, 2])
        self.runs(("order", (0, 1, 2), 1, ("top", (2, 0))), hall, [2, 1, 0, 1, 2, 2, 2])

    def test_each_lock_has_its_own(self):
        hall = [(5, []), (1, [W1]), (0, [TAKE_0, GIVE_0, TAKE_1, W1, GIVE_1])]
        self.runs(("order", (0, 1, 2), 1, ("top", (2, 0))), hall, [2, 1, 1, 2, 2, 2, 2, 0, 2])
        self.runs(("order", (0, 1, 2), 1, ("top", (0, 2))), hall, [2, 2, 1, 1, 2, 0, 2, 2, 2])

    def test_the_best_of_both(self):
        hall = [(3, []), (2, [W1]), (0, [TAKE_0, TAKE_1, W2, GIVE_1, GIVE_0])]
        for tops in [(0, 2), (2, 0)]:
            self.runs(("order", (0, 1, 2), 1, ("top", tops)), hall,
                      [2, 2, 2, 2, 2, 2, 0, 1, 1, 2] if tops == (0, 2) else [2, 2, 2, 2, 2, 0, 1, 1, 2, 2])

    def test_a_place_worse_than_the_own_one_does_not_count(self):
        hall = [(0, [TAKE_0, W1, GIVE_0]), (1, [W1]), (1, [])]
        self.runs(("order", (0, 1, 2), 1, ("top", (2, 2))), hall, [0, 0, 0, 0, 1, 1, 2])

    def test_of_several_the_one_that_ran_last(self):
        hall = [(1, [W1]), (0, [TAKE_0, W2, GIVE_0])]
        self.runs(("order", (0, 1), 1, ("top", (0, 0))), hall, [1, 1, 1, 1, 0, 0, 1])

    def test_else_the_best_by_the_order(self):
        # In unit 5, 0 and 2 (which holds lock 0) have the place 0; 1 ran last, but has the place 2.
        hall = [(5, [W1]), (0, [TAKE_1, W1, GIVE_1, W1]), (1, [TAKE_0, TAKE_1, GIVE_1, GIVE_0])]
        self.runs(("order", (0, 2, 1), 1, ("top", (0, 2))), hall, [1, 2, 2, 1, 1, 0, 0, 2, 2, 2, 2, 1, 1])
        # The same with 0 and 2 exchanged: the best by the order is not the least number.
        self.runs(("order", (2, 0, 1), 1, ("top", (0, 2))), [hall[2], hall[1], hall[0]],
                  [1, 0, 0, 1, 1, 2, 2, 0, 0, 0, 0, 1, 1])

    def test_keeping_goes_before_places(self):
        hall = [(0, [TAKE_0, W1, TAKE_1, GIVE_1, GIVE_0]), (1, [TAKE_1, W1, GIVE_1])]
        self.runs(("order", (0, 1), 0, ("top", (0, 0))), hall, [0] * 6 + [1] * 4)


class RoundsTest(SchedulingTest):
    def test_quanta(self):
        hall = [(0, [W3]), (0, [W3])]
        self.runs(("rounds", 1, 0), hall, [0, 1, 0, 1, 0, 1, 0, 1])
        self.runs(("rounds", 2, 0), hall, [0, 0, 1, 1, 0, 0, 1, 1])
        self.runs(("rounds", 3, 0), hall, [0, 0, 0, 1, 1, 1, 0, 1])
        self.runs(("rounds", 4, 0), hall, [0, 0, 0, 0, 1, 1, 1, 1])
        self.runs(("rounds", 3, 1), hall, [0, 0, 0, 1, 1, 1, 0, 1])

    def test_early_goes_ahead_of_those_who_come_with_the_next_unit(self):
        hall = [(0, [("work", 5)]), (2, [W1])]
        self.runs(("rounds", 2, 0), hall, [0, 0, 0, 0, 1, 1, 0, 0])

    def test_late_goes_behind_those_who_come_with_the_next_unit(self):
        hall = [(0, [("work", 5)]), (2, [W1])]
        self.runs(("rounds", 2, 1), hall, [0, 0, 1, 1, 0, 0, 0, 0])
        self.runs(("rounds", 2, 1), [(0, [("work", 5)]), (2, [W1]), (2, [])], [0, 0, 1, 1, 2, 0, 0, 0, 0])

    def test_one_that_comes_in_the_last_unit_of_the_quantum_is_ahead_in_both(self):
        hall = [(0, [("work", 5)]), (1, [W1])]
        for late in (0, 1):
            self.runs(("rounds", 2, late), hall, [0, 0, 1, 1, 0, 0, 0, 0])

    def test_those_ready_again_in_that_unit(self):
        hall = [(0, [TAKE_0, W2, GIVE_0, W2]), (0, [TAKE_0, GIVE_0])]
        self.runs(("rounds", 2, 0), hall, [0, 0, 1, 0, 0, 0, 0, 1, 1, 0, 1])
        self.runs(("rounds", 2, 1), hall, [0, 0, 1, 0, 0, 1, 1, 0, 0, 1, 0])

    def test_who_joins_begins_with_no_units(self):
        hall = [(0, [W1, S1, W3]), (3, [W1])]
        for late in (0, 1):
            self.runs(("rounds", 3, late), hall, [0, 0, 0, 0, 0, 1, 1, 0])

    def test_the_next_one_begins_with_no_units(self):
        self.runs(("rounds", 2, 0), [(0, []), (0, [W3]), (0, [W1])], [0, 1, 1, 2, 2, 1, 1])
        hall = [(0, [TAKE_0, W3, GIVE_0]), (1, [TAKE_0, GIVE_0]), (1, [W3])]
        self.runs(("rounds", 2, 0), hall, [0, 0, 1, 2, 2, 0, 0, 2, 2, 0, 0, 1, 1, 1])

    def test_units_are_counted_anew_after_going_to_the_end(self):
        hall = [(0, [("work", 5)]), (3, [W1])]
        self.runs(("rounds", 2, 0), hall, [0, 0, 0, 0, 1, 1, 0, 0])
        self.runs(("rounds", 2, 1), hall, [0, 0, 0, 0, 1, 1, 0, 0])

    def test_one_that_leaves_with_its_quantum_does_not_go_to_the_end(self):
        for late in (0, 1):
            self.runs(("rounds", 2, late), [(0, [W1, S1, W1]), (0, [W3])], [0, 0, 1, 1, 0, 0, 1, 1])


class LevelsTest(SchedulingTest):
    def test_a_quantum_leads_to_the_next_queue(self):
        hall = [(0, [W3]), (0, [W3])]
        self.runs(("levels", (1, 2), 0), hall, [0, 1, 0, 0, 1, 1, 0, 1])
        self.runs(("levels", (1, 2, 4), 0), hall, [0, 1, 0, 0, 1, 1, 0, 1])
        self.runs(("levels", (2, 1), 0), hall, [0, 0, 1, 1, 0, 1, 0, 1])

    def test_those_who_come_run_before_worse_queues(self):
        self.runs(("levels", (1, 1), 0), [(0, [W3]), (2, [])], [0, 0, 1, 0, 0])

    def test_units_of_others_between_do_not_count(self):
        hall = [(0, [("work", 4)]), (2, [W2])]
        self.runs(("levels", (1, 2), 0), hall, [0, 0, 1, 0, 1, 1, 0, 0])

    def test_the_last_queue_is_a_round(self):
        hall = [(0, [TAKE_0, W2, GIVE_0, W2]), (0, [TAKE_0, GIVE_0])]
        # One that goes to the end of the only queue is ahead of those ready again in that unit.
        self.runs(("levels", (2,), 0), hall, [0, 0, 1, 0, 0, 0, 0, 1, 1, 0, 1])
        self.runs(("levels", (1, 2), 0), [(0, [("work", 5)]), (0, [("work", 5)])],
                  [0, 1, 0, 0, 1, 1, 0, 0, 1, 1, 0, 1])

    def test_those_ready_again_join_the_first_queue_with_no_units(self):
        hall = [(0, [TAKE_0, ("work", 4), GIVE_0, W3]), (1, [W1, TAKE_0, W1, GIVE_0])]
        self.runs(("levels", (2, 4), 0), hall, [0, 0, 1, 1, 0, 0, 0, 0, 1, 1, 0, 0, 0, 0, 1, 1])

    def test_one_that_sleeps_comes_to_the_first_queue(self):
        hall = [(0, [W2, S1, W3]), (0, [W3])]
        self.runs(("levels", (2, 4), 0), hall, [0, 0, 1, 1, 0, 0, 0, 1, 1, 0, 0])

    def test_all_are_raised(self):
        hall = [(0, [("work", 4)]), (0, [("work", 4)])]
        self.runs(("levels", (1, 4), 0), hall, [0, 1, 0, 0, 0, 0, 1, 1, 1, 1])
        self.runs(("levels", (1, 4), 3), hall, [0, 1, 0, 0, 1, 0, 0, 1, 1, 1])

    def test_those_of_better_queues_ahead_with_no_units(self):
        hall = [(0, [("work", 4)]), (0, [("work", 4)])]
        # When all are raised after unit 2, 1 is ahead, since it was in the first queue still.
        self.runs(("levels", (2, 2), 3), hall, [0, 0, 1, 1, 1, 0, 0, 0, 1, 1])

    def test_raised_when_those_ready_again_have_joined(self):
        hall = [(0, [TAKE_0, W2, GIVE_0, W1]), (1, [TAKE_0, GIVE_0])]
        self.runs(("levels", (1, 4), 5), hall, [0, 1, 0, 0, 0, 1, 0, 1, 1, 0])

    def test_units_in_which_nobody_runs_count_for_raising(self):
        hall = [(2, [("work", 4)]), (2, [W2])]
        self.runs(("levels", (1, 4), 4), hall, [None, None, 0, 1, 0, 1, 0, 0, 0, 1])
        self.runs(("levels", (1, 4), 0), hall, [None, None, 0, 1, 0, 0, 0, 0, 1, 1])

    def test_a_raising_while_nobody_runs(self):
        # All are raised after units 2 and 5, in the first of which nobody runs.
        hall = [(0, []), (3, [("work", 4)]), (3, [W3])]
        self.runs(("levels", (1, 4), 3), hall, [0, None, None, 1, 2, 1, 1, 2, 1, 1, 2, 2])

    def test_raised_after_each_unit(self):
        hall = [(0, [W2]), (0, [W2])]
        # Who goes on to the second queue comes back behind those of the first one.
        self.runs(("levels", (1, 4), 1), hall, [0, 1, 0, 1, 0, 1])
        self.runs(("levels", (2, 4), 1), hall, [0, 0, 0, 1, 1, 1])


class AgingTest(SchedulingTest):
    BOTH = [(0, [("work", 5)]), (0, [("work", 5)])]

    def test_ages_count_by_steps(self):
        self.assertEqual(run(("aging", (0, 1), 1), self.BOTH, 9), [0, 0, 1, 0, 0, 1, 0, 0, 1])
        self.assertEqual(run(("aging", (0, 1), 2), self.BOTH, 9), [0, 0, 0, 0, 1, 0, 0, 1, 1])
        self.assertEqual(run(("aging", (1, 0), 1), self.BOTH, 9), [1, 1, 0, 1, 1, 0, 1, 1, 0])

    def test_of_several_the_best_place_by_the_order(self):
        # In unit 1, both have the number 0.
        self.assertEqual(run(("aging", (0, 1), 1), self.BOTH, 2), [0, 0])
        self.assertEqual(run(("aging", (1, 0), 1), self.BOTH, 2), [1, 1])

    def test_the_age_of_the_one_that_ran_is_0(self):
        hall = [(0, [("work", 9)]), (0, [("work", 9)]), (0, [("work", 9)])]
        self.assertEqual(run(("aging", (0, 1, 2), 1), hall, 12), [0, 0, 1, 0, 2, 0, 1, 0, 2, 0, 1, 0])

    def test_who_comes_has_the_age_0(self):
        # 1 sleeps when it is old; were it old again, it would run in unit 4.
        hall = [(0, [("work", 9)]), (0, [S1, W1])]
        self.assertEqual(run(("aging", (0, 1), 1), hall, 7), [0, 0, 1, 0, 0, 1, 0])
        late = [(0, [("work", 9)]), (3, [W1])]
        self.assertEqual(run(("aging", (0, 1), 1), late, 7), [0, 0, 0, 0, 0, 1, 0])

    def test_who_is_ready_again_has_the_age_0(self):
        # 0 gives in unit 7; then 1 has to grow old from the age 0 before it runs.
        hall = [(0, [TAKE_0, ("work", 5), GIVE_0, ("work", 5)]), (1, [TAKE_0, GIVE_0])]
        self.runs(("aging", (0, 1), 1), hall, [0, 0, 0, 1, 0, 0, 0, 0, 0, 0, 1, 0, 0, 1, 0, 0, 1])

    def test_ages_are_bounded(self):
        chooser = AgingChooser((0, 1), 2)
        memory = chooser.joined(chooser.fresh(), (0, 1))
        for _ in range(20):
            memory = chooser.settled(memory, 0, "work", ())
        self.assertEqual(memory, (0, 8))


class DueTest(SchedulingTest):
    def test_the_one_due_first_runs(self):
        hall = [(0, [("work", 5)]), (1, [W1])]
        self.runs(("due", (6, 3)), hall, [0, 1, 1, 0, 0, 0, 0, 0])
        self.runs(("due", (3, 6)), hall, [0, 0, 0, 0, 0, 0, 1, 1])

    def test_of_several_the_least_number(self):
        self.runs(("due", (3, 2)), [(0, [W2]), (1, [W1])], [0, 0, 0, 1, 1])
        self.runs(("due", (2, 3)), [(1, [W2]), (0, [W2])], [1, 0, 0, 0, 1, 1])

    def test_a_due_time_stays_when_it_is_past(self):
        self.runs(("due", (1, 1)), [(0, [("work", 5)]), (2, [])], [0, 0, 0, 0, 0, 0, 1])
        self.runs(("due", (1, 1)), [(2, []), (0, [("work", 5)])], [1, 1, 1, 1, 1, 1, 0])

    def test_several_that_are_past_keep_their_order(self):
        self.runs(("due", (3, 1)), [(0, [W1]), (0, [("work", 6)])], [1] * 7 + [0] * 2)
        hall = [(0, [W1]), (0, [W1]), (0, [("work", 8)])]
        self.runs(("due", (3, 2, 1)), hall, [2] * 9 + [1] * 2 + [0] * 2)
        self.runs(("due", (3, 3, 1)), hall, [2] * 9 + [0] * 2 + [1] * 2)

    def test_a_sleep_gives_a_new_due_time(self):
        self.runs(("due", (2, 2)), [(0, [S1, W1]), (0, [W1])], [0, 1, 1, 0, 0])
        # The first due time of 0 was past for long when it sleeps.
        self.runs(("due", (1, 6)), [(0, [("work", 5), S1, W1]), (0, [W1])], [0] * 6 + [1] * 2 + [0] * 2)

    def test_a_due_time_does_not_become_past_in_a_sleep(self):
        # The first due time of 0 is 2, in its sleep; the second one is 5, behind that of 1.
        self.runs(("due", (2, 4)), [(0, [("sleep", 3), W1]), (0, [("work", 4)])], [0, 1, 1, 1, 1, 1, 0, 0])

    def test_a_due_time_stays_while_a_process_waits_for_a_lock(self):
        hall = [(1, [TAKE_0, GIVE_0]), (0, [TAKE_0, W1, GIVE_0, W1])]
        self.runs(("due", (1, 3)), hall, [1, 0, 1, 1, 0, 0, 0, 1, 1])

    def test_a_due_time_becomes_past_while_a_process_waits_for_a_lock(self):
        hall = [(1, [TAKE_0, GIVE_0]), (0, [TAKE_0, ("work", 6), GIVE_0, W1]), (9, [W1])]
        # 0 is due in unit 2, 1 in unit 6, and 2 in unit 10.
        self.runs(("due", (1, 6, 1)), hall, [1, 0] + [1] * 7 + [0] * 3 + [1] * 2 + [2] * 2)


class SharesTest(SchedulingTest):
    def test_accounts_grow_by_a_part_of_a_weight(self):
        hall = [(0, [("work", 9)]), (0, [("work", 9)])]
        self.assertEqual(run(("shares", (1, 1)), hall, 8), [0, 1, 0, 1, 0, 1, 0, 1])
        self.assertEqual(run(("shares", (2, 1)), hall, 9), [0, 1, 0, 0, 1, 0, 0, 1, 0])
        self.assertEqual(run(("shares", (1, 2)), hall, 9), [0, 1, 1, 0, 1, 1, 0, 1, 1])
        self.assertEqual(run(("shares", (3, 2)), hall, 10), [0, 1, 0, 1, 0, 0, 1, 0, 1, 0])

    def test_fractions_are_exact(self):
        # Three thirds are one: then both are equal, and 0 has the least number.
        hall = [(0, [("work", 9)]), (0, [("work", 9)])]
        self.assertEqual(run(("shares", (1, 3)), hall, 9), [0, 1, 1, 1, 0, 1, 1, 1, 0])

    def test_of_several_the_least_number(self):
        self.runs(("shares", (1, 1, 1)), [(0, [])] * 3, [0, 1, 2])

    def test_one_that_comes_late_has_the_least_account(self):
        self.runs(("shares", (1, 1)), [(0, [("work", 5)]), (3, [W2])], [0, 0, 0, 0, 1, 0, 1, 0, 1])
        self.runs(("shares", (1, 1)), [(3, [W2]), (0, [("work", 5)])], [1, 1, 1, 0, 1, 0, 1, 0, 1])

    def test_of_several_accounts_the_least(self):
        # As 2 comes, 0 has the account 1 and 1 a half; 2 has a half, too.
        hall = [(0, [("work", 9)]), (0, [("work", 9)]), (2, [W2])]
        self.assertEqual(run(("shares", (1, 2, 1)), hall, 6), [0, 1, 1, 2, 0, 1])

    def test_an_account_is_0_if_nobody_was_ready(self):
        # 0 sleeps alone, and comes with 1: both have the account 0, so 0 runs, then 1.
        self.runs(("shares", (1, 1)), [(0, [W3, S1, W1]), (4, [W1])], [0, 0, 0, 0, 0, 1, 0, 1])

    def test_one_that_is_ready_again_has_the_least_account_at_the_end_of_the_unit(self):
        # As 1 gives, its account is 4; 0 has 4, too, and not 3.
        hall = [(1, [TAKE_0, GIVE_0]), (0, [TAKE_0, W2, GIVE_0, W2])]
        self.runs(("shares", (1, 1)), hall, [1, 0, 1, 1, 1, 0, 1, 0, 1, 0, 1])

    def test_one_that_is_ready_again_has_no_less(self):
        # As 0 gives, both have the account 4, so that 0 runs first.
        hall = [(0, [TAKE_0, W2, GIVE_0, W2]), (1, [TAKE_0, GIVE_0])]
        self.runs(("shares", (1, 1)), hall, [0, 0, 1, 0, 0, 0, 1, 0, 1, 0, 1])

    def test_one_that_waits_has_no_account(self):
        # 1 waits with a small account, which does not count for 2 that comes.
        hall = [(0, [TAKE_0, ("work", 4), GIVE_0]), (1, [TAKE_0, GIVE_0]), (4, [W1])]
        self.assertEqual(run(("shares", (1, 1, 1)), hall, 9), [0, 0, 1, 0, 0, 2, 0, 2, 0])


if __name__ == "__main__":
    unittest.main()
