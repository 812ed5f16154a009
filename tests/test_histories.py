"""Halls from histories, as processturns/histories.py makes them."""

import unittest

from processturns.histories import hall_of, history_to
from processturns.running import log, run
from values import GIVE_0, GIVE_1, TAKE_0, TAKE_1

WORK, LEAVE = ("work", 1), ("sleep", 1)


class HallOfTest(unittest.TestCase):
    def test_nothing_came(self):
        self.assertEqual(hall_of([], 2), [(0, []), (0, [])])
        self.assertEqual(hall_of([((), None, None)] * 3, 1), [(3, [])])

    def test_works_are_put_together(self):
        history = [((1,), 1, WORK), ((), 1, WORK), ((0,), 1, LEAVE), ((), 0, WORK)]
        self.assertEqual(hall_of(history, 2), [(2, [("work", 1)]), (0, [("work", 2)])])

    def test_sleep_up_to_the_next_coming(self):
        history = [((0,), 0, LEAVE), ((), None, None), ((), None, None), ((0,), 0, WORK), ((), 0, LEAVE)]
        hall = hall_of(history, 1)
        self.assertEqual(hall, [(0, [("sleep", 3), ("work", 1)])])
        self.assertEqual(run(("first",), hall, 9), [0, None, None, 0, 0])

    def test_locks_are_given_in_the_order_in_which_they_were_taken(self):
        for first, other in [(0, 1), (1, 0)]:
            history = [((0,), 0, ("take", first)), ((), 0, ("take", other)), ((), 0, WORK)]
            self.assertEqual(hall_of(history, 1), [
                (0, [("take", first), ("take", other), ("work", 1), ("give", first), ("give", other)]),
            ])
        self.assertEqual(hall_of([((0,), 0, TAKE_0), ((), 0, TAKE_1), ((), 0, GIVE_0), ((), 0, TAKE_0)], 1), [
            (0, [TAKE_0, TAKE_1, GIVE_0, TAKE_0, GIVE_1, GIVE_0]),
        ])

    def test_one_that_asks_in_vain_again_takes_once(self):
        # 1 asks in vain, is ready again, and asks in vain behind 0, which has taken the lock again.
        history = [
            ((0,), 0, TAKE_0), ((1,), 1, TAKE_0), ((), 0, GIVE_0), ((), 0, TAKE_0), ((), 1, TAKE_0), ((), 0, GIVE_0),
        ]
        self.assertEqual(hall_of(history, 2), [(0, [TAKE_0, GIVE_0, TAKE_0, GIVE_0]), (1, [TAKE_0, GIVE_0])])

    def test_one_that_waits_has_its_lock_later(self):
        history = [((0, 1), 0, TAKE_0), ((), 1, TAKE_1), ((), 1, TAKE_0), ((), 0, TAKE_1)]
        hall = hall_of(history, 2)
        self.assertEqual(hall, [(0, [TAKE_0, TAKE_1, GIVE_0, GIVE_1]), (0, [TAKE_1, TAKE_0, GIVE_1, GIVE_0])])
        self.assertEqual(log(("rounds", 1, 0), hall, 9), [(0, "take"), (1, "take"), (0, "ask"), (1, "ask")])


class HistoryToTest(unittest.TestCase):
    def test_back_to_where_nothing_was_before(self):
        origins = [None, (0, (1,), 1, WORK), (0, (), None, None), (1, (), 1, LEAVE)]
        self.assertEqual(history_to(origins, 0), [])
        self.assertEqual(history_to(origins, 2), [((), None, None)])
        self.assertEqual(history_to(origins, 3), [((1,), 1, WORK), ((), 1, LEAVE)])


if __name__ == "__main__":
    unittest.main()
