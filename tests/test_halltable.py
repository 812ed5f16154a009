"""The interface of processturns/halltable.py."""

import unittest

from counted import PARTS, schedulers_of, some
from processturns import halltable
from processturns.errors import BadNumber, BadProgram, BadScheduler, NotFound
from processturns.halltable import Table
from processturns.running import run, status_rows
from refusals import raises_in_order
from values import GIVE_0, NO_INTEGERS, NO_PROGRAMS, NO_SCHEDULERS, TAKE_0, TAKE_1, GIVE_1

FIRST, LAST = ("first",), ("last",)


def shown(table):
    """All that a table shows."""
    return table.journal(), table.words(), table.holders(), len(table)


def goes(table, many):
    return [table.tick() for _ in range(many)]


class BeginAndTickTest(unittest.TestCase):
    def test_at_first(self):
        for size in (1, 2, 3, 4):
            table = Table(LAST, size)
            self.assertEqual(shown(table), ([], ["away"] * size, [None, None], 0))

    def test_nobody_runs_without_programs(self):
        table = Table(LAST, 2)
        self.assertEqual(goes(table, 3), [None] * 3)
        self.assertEqual(shown(table), ([None] * 3, ["away"] * 2, [None, None], 3))

    def test_one_that_begins_comes_in_the_next_unit(self):
        table = Table(FIRST, 2)
        self.assertEqual(table.begin(1, [("work", 1)]), 1)
        self.assertEqual(table.words(), ["away", "away"])
        self.assertEqual(table.tick(), 1)
        self.assertEqual(table.words(), ["away", "ready"])
        self.assertEqual(table.begin(0, []), 0)
        self.assertEqual(goes(table, 3), [1, 0, None])
        self.assertEqual(shown(table), ([1, 1, 0, None], ["away", "away"], [None, None], 4))

    def test_locks_and_waiting(self):
        table = Table(LAST, 2)
        table.begin(0, [TAKE_0, ("work", 1), TAKE_1, GIVE_1, GIVE_0])
        self.assertEqual((table.tick(), table.holders()), (0, [0, None]))
        table.begin(1, [TAKE_0, GIVE_0])
        self.assertEqual((table.tick(), table.words()), (1, ["ready", "waits"]))
        self.assertEqual(goes(table, 2), [0, 0])
        self.assertEqual(table.holders(), [0, 0])
        self.assertEqual((goes(table, 2), table.words()), ([0, 0], ["ready", "ready"]))
        self.assertEqual((table.tick(), table.holders()), (1, [1, None]))

    def test_another_program_behind_the_end(self):
        table = Table(FIRST, 1)
        table.begin(0, [("work", 2)])
        self.assertEqual(goes(table, 3), [0, 0, 0])
        table.begin(0, [("sleep", 2), ("work", 1)])
        self.assertEqual(goes(table, 5), [0, None, 0, 0, None])
        table.begin(0, [])
        self.assertEqual(goes(table, 2), [0, None])

    def test_only_one_that_is_away_for_ever(self):
        table = Table(FIRST, 2)
        table.begin(0, [("work", 1), ("sleep", 2), TAKE_0, GIVE_0])
        # It comes in the next unit; is ready; sleeps; is ready again, up to its end.
        for who in [0, 0, None, 0, 0, 0]:
            self.assertRaises(BadNumber, table.begin, 0, [])
            self.assertEqual(table.tick(), who)
        self.assertEqual(table.begin(0, []), 0)
        self.assertRaises(BadNumber, table.begin, 0, [])

    def test_not_one_that_waits(self):
        table = Table(LAST, 2)
        table.begin(0, [TAKE_0, ("work", 9), GIVE_0])
        table.tick()
        table.begin(1, [TAKE_0, GIVE_0])
        table.tick()
        self.assertEqual(table.words(), ["ready", "waits"])
        self.assertRaises(BadNumber, table.begin, 1, [])

    def test_200_units(self):
        table = Table(FIRST, 2)
        table.begin(0, [("work", 99)] * 3)
        self.assertEqual(goes(table, 200), [0] * 200)
        before = shown(table)
        for _ in range(3):
            self.assertRaises(BadNumber, table.tick)
            self.assertEqual(shown(table), before)
        self.assertEqual(table.begin(1, []), 1)
        self.assertRaises(BadNumber, table.tick)
        self.assertEqual(table.undo(), 200)
        self.assertEqual(table.undo(), 199)
        self.assertEqual((table.tick(), len(table)), (0, 200))

    def test_a_table_has_a_length_and_is_no_list(self):
        table = Table(FIRST, 1)
        for many in range(5):
            self.assertEqual(len(table), many)
            table.tick()


class UndoTest(unittest.TestCase):
    def test_nothing_to_take_back(self):
        table = Table(FIRST, 2)
        self.assertRaises(NotFound, table.undo)
        table.begin(0, [])
        self.assertEqual(table.undo(), 0)
        self.assertRaises(NotFound, table.undo)
        self.assertEqual(shown(table), ([], ["away"] * 2, [None, None], 0))

    def test_of_a_tick_and_of_a_begin(self):
        table = Table(LAST, 2)
        table.begin(0, [TAKE_0, GIVE_0])
        goes(table, 1)
        table.begin(1, [("work", 1)])
        goes(table, 1)
        self.assertEqual(table.journal(), [0, 1])
        self.assertEqual(table.undo(), 1)
        self.assertEqual(shown(table), ([0], ["ready", "away"], [0, None], 1))
        self.assertEqual(table.undo(), 1)
        self.assertEqual(table.begin(1, []), 1)
        self.assertEqual(table.undo(), 1)
        self.assertEqual(goes(table, 2), [0, 0])
        self.assertEqual([table.undo() for _ in range(4)], [2, 1, 0, 0])
        self.assertRaises(NotFound, table.undo)

    def test_refused_calls_are_not_taken_back(self):
        table = Table(LAST, 2)
        table.begin(0, [("work", 1)])
        table.tick()
        for call, error in [
            (lambda: table.begin(2, []), BadNumber), (lambda: table.begin(1, None), BadProgram),
            (lambda: table.begin(0, []), BadNumber),
        ]:
            before = shown(table)
            self.assertRaises(error, call)
            self.assertEqual(shown(table), before)
        self.assertEqual(table.undo(), 0)
        self.assertEqual(table.undo(), 0)
        self.assertRaises(NotFound, table.undo)

    def test_the_scheduler_goes_back_too(self):
        for size in (1, 2, 3, 4):
            for scheduler in schedulers_of(size):
                table = Table(scheduler, size)
                for slot in range(size):
                    table.begin(slot, [("work", 9), ("take", slot % 2), ("work", 2), ("give", slot % 2)])
                states = [shown(table)]
                for _ in range(25):
                    table.tick()
                    states.append(shown(table))
                for many in (3, 11, 25):
                    for back in range(many):
                        self.assertEqual(table.undo(), 24 - back)
                        self.assertEqual(shown(table), states[24 - back])
                    for unit in range(25 - many, 25):
                        table.tick()
                        self.assertEqual(shown(table), states[unit + 1], scheduler)


class AsARunTest(unittest.TestCase):
    def test_processes_come_when_they_were_begun(self):
        for size in (1, 2, 3, 4):
            for number, scheduler in enumerate(some(schedulers_of(size), 60)):
                hall = [
                    ((number * 3 + slot * 5) % 11, PARTS[(number + slot) % 13] + PARTS[(number * 5 + slot * 3) % 13])
                    for slot in range(size)
                ]
                self.as_a_run(scheduler, hall, number)

    def as_a_run(self, scheduler, hall, number):
        table = Table(scheduler, len(hall))
        for unit in range(60):
            for slot, (comes, program) in enumerate(hall):
                if comes == unit:
                    table.begin(slot, program)
            # Something else is begun and ticked in between, and taken back.
            for slot in range(len(hall)):
                if unit % 7 == number % 7 and unit < hall[slot][0]:
                    table.begin(slot, [TAKE_1, ("work", 2), GIVE_1])
                    goes(table, 3)
                    self.assertEqual([table.undo() for _ in range(4)], [unit + 2, unit + 1, unit, unit])
            if unit % 5 == 2:
                self.assertRaises(BadNumber, table.begin, len(hall), [])
            table.tick()
        ran = run(scheduler, hall, 60)
        self.assertEqual(table.journal()[:len(ran)], ran, (scheduler, hall))
        self.assertEqual(set(table.journal()[len(ran):]) - {None}, set())

    def test_words_are_those_before_the_next_comers(self):
        hall = [(0, [TAKE_0, ("work", 2), GIVE_0]), (1, [TAKE_0, GIVE_0]), (3, [("sleep", 2)])]
        for scheduler in schedulers_of(3):
            table = Table(scheduler, 3)
            rows = status_rows(scheduler, hall, 20)
            for unit, row in enumerate(rows):
                for slot, (comes, program) in enumerate(hall):
                    if comes == unit:
                        table.begin(slot, program)
                before = table.words()
                table.tick()
                # Others than those who come are as they are chosen.
                for slot in range(3):
                    if before[slot] != "away":
                        self.assertEqual(before[slot], row[slot])


class ChecksTest(unittest.TestCase):
    def test_of_a_new_table(self):
        raises_in_order(self, Table, (FIRST, 2), [
            (1, [0, -1, 5, 6] + NO_INTEGERS, BadNumber), (0, NO_SCHEDULERS, BadScheduler),
        ])
        for size in (1, 2, 3, 4):
            Table(("due", (1,) * size), size)
            self.assertRaises(BadScheduler, Table, ("due", (1,) * size), size % 4 + 1)

    def test_of_begin(self):
        table = Table(FIRST, 2)
        before = shown(table)
        for slot in [-1, 2, 3] + NO_INTEGERS:
            self.assertRaises(BadNumber, table.begin, slot, [])
            self.assertRaises(BadNumber, table.begin, slot, None)
        for program in NO_PROGRAMS:
            self.assertRaises(BadProgram, table.begin, 1, program)
        table.begin(0, [("work", 1)])
        for program in NO_PROGRAMS:
            self.assertRaises(BadProgram, table.begin, 0, program)
        self.assertRaises(BadNumber, table.begin, 0, [])
        table.undo()
        self.assertEqual(shown(table), before)
        self.assertRaises(NotFound, table.undo)

    def test_programs_of_0_and_40_deeds(self):
        table = Table(FIRST, 1)
        table.begin(0, [("work", 1)] * 40)
        self.assertEqual(goes(table, 42), [0] * 41 + [None])
        table.begin(0, [])
        self.assertEqual(goes(table, 2), [0, None])
        self.assertRaises(BadProgram, table.begin, 0, [("work", 1)] * 41)

    def test_what_is_stored_is_copied(self):
        program = [("work", 1)]
        table = Table(FIRST, 1)
        table.begin(0, program)
        program.append(("work", 99))
        self.assertEqual(goes(table, 3), [0, 0, None])
        for rows in (table.journal(), table.words(), table.holders()):
            rows.append(7)
        self.assertEqual(shown(table), ([0, 0, None], ["away"], [None, None], 3))

    def test_two_tables_do_not_know_each_other(self):
        one, other = Table(LAST, 2), Table(LAST, 2)
        one.begin(0, [("work", 3)])
        goes(one, 2)
        self.assertEqual(shown(other), ([], ["away"] * 2, [None, None], 0))
        self.assertRaises(NotFound, other.undo)

    def test_methods_are_defined_in_the_class_itself(self):
        for name in ["begin", "tick", "journal", "words", "holders", "undo", "__len__", "__init__"]:
            self.assertIn(name, vars(Table))
        self.assertEqual(Table.__module__, halltable.__name__)


if __name__ == "__main__":
    unittest.main()
