"""Runs of many halls under all kinds of scheduler, held against a second way to run them."""

import unittest

from counted import hall_by_number, schedulers_of, short_halls, some
from plain import plain_rows
from processturns.halls import is_hall
from processturns.running import ends, log, run, status_rows
from processturns.schedulers import is_scheduler
from processturns.times import (
    asked_in_vain, finish, idle_units, longest_stretch, served, switches, waits,
)

MOST = 60


class AgainstPlainTest(unittest.TestCase):
    def alike(self, scheduler, hall, most=MOST):
        rows, end = plain_rows(scheduler, hall, most)
        told = [(who, event) for _, who, event in rows]
        self.assertEqual(log(scheduler, hall, most), told, (scheduler, hall))
        return rows, end

    def test_what_is_counted_is_valid(self):
        for size in (1, 2, 3, 4):
            for scheduler in schedulers_of(size):
                self.assertIs(is_scheduler(scheduler, size), True, scheduler)
            for number in range(300):
                self.assertIs(is_hall(hall_by_number(number, size)), True, number)

    def test_all_short_halls_of_two(self):
        halls = short_halls()
        for scheduler in some(schedulers_of(2), 12):
            for hall in halls:
                self.alike(scheduler, hall)

    def test_all_schedulers(self):
        for size, many in [(1, 10), (2, 20), (3, 15), (4, 15)]:
            halls = [hall_by_number(number, size) for number in range(many)]
            for scheduler in schedulers_of(size):
                for hall in halls:
                    self.alike(scheduler, hall)

    def test_many_halls(self):
        for size in (3, 4):
            halls = [hall_by_number(number, size) for number in range(1000, 1150)]
            for scheduler in some(schedulers_of(size), 20):
                for hall in halls:
                    self.alike(scheduler, hall)

    def test_long_runs(self):
        for size in (2, 3, 4):
            for scheduler in some(schedulers_of(size), 12):
                hall = [(slot, [("work", 9), ("sleep", 2), ("take", slot % 2), ("work", 30), ("give", slot % 2)] * 3)
                        for slot in range(size)]
                self.assertEqual(len(self.alike(scheduler, hall, 200)[0]) > 100, True)

    def test_words_and_ends(self):
        found = []
        for size in (1, 2, 3, 4):
            for scheduler in some(schedulers_of(size), 30):
                for number in range(25):
                    hall = hall_by_number(number, size)
                    for most in (0, 7, MOST):
                        rows, end = self.alike(scheduler, hall, most)
                        self.assertEqual(run(scheduler, hall, most), [row[1] for row in rows])
                        self.assertEqual(status_rows(scheduler, hall, most), [row[0] for row in rows])
                        self.assertEqual(ends(scheduler, hall, most), end)
                        found.append(end)
        self.assertEqual(sorted(set(found)), ["ended", "open", "stuck"])

    def test_times(self):
        for size in (1, 2, 3, 4):
            for scheduler in some(schedulers_of(size), 15):
                for number in range(20):
                    hall = hall_by_number(number, size)
                    for most in (11, MOST):
                        self.times_alike(scheduler, hall, most)

    def times_alike(self, scheduler, hall, most):
        rows, end = plain_rows(scheduler, hall, most)
        runners = [who for _, who, _ in rows if who is not None]
        changes = sum(one != other for one, other in zip(runners, runners[1:]))
        self.assertEqual(switches(scheduler, hall, most), changes)
        self.assertEqual(idle_units(scheduler, hall, most), len(rows) - len(runners))
        for slot in range(len(hall)):
            self.assertEqual(served(scheduler, hall, most)[slot], runners.count(slot))
            asked = [event for _, who, event in rows if who == slot].count("ask")
            self.assertEqual(asked_in_vain(scheduler, hall, most)[slot], asked)
            # A letter for each unit: r for ready without running, w for waiting, a dot for all else.
            letters = "".join("." if who == slot or words[slot] == "away" else words[slot][0] for words, who, _ in rows)
            self.assertEqual(waits(scheduler, hall, most, slot), (letters.count("r"), letters.count("w")))
            self.assertEqual(longest_stretch(scheduler, hall, most, slot), max(map(len, letters.split("."))))
        if end == "ended":
            last = [finish(scheduler, hall, most, slot) for slot in range(len(hall))]
            self.assertEqual(max(last), len(rows))
            for slot, unit in enumerate(last):
                self.assertEqual(rows[unit - 1][1:], (slot, "leave"))
                self.assertNotIn(slot, [row[1] for row in rows[unit:]])


if __name__ == "__main__":
    unittest.main()
