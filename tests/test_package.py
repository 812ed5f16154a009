"""Point [7] over the whole package: what is listed is there, changes no argument and returns new lists."""

import ast
import copy
import importlib
import inspect
import pathlib
import unittest

from processturns import errors
from processturns.errors import TurnError
from processturns.halltable import Table
from values import GIVE_0, GIVE_1, H, TAKE_0, TAKE_1

PACKAGE = pathlib.Path(__file__).resolve().parent.parent / "processturns"

FIRST, LAST = ("first",), ("last",)
TAKES = ("order", (1, 0), 1, ("plain",))
TOP = ("order", (0, 1), 1, ("top", (0, 0)))
UP = [TAKE_0, ("work", 2), TAKE_1, GIVE_1, GIVE_0]
DOWN = [TAKE_1, TAKE_0, GIVE_0, ("work", 1), GIVE_1]
CROSSED = [(0, UP), (1, DOWN)]
FAMILY = [FIRST, LAST, TAKES, ("rounds", 1, 0)]
RECORDS = [(H, [0, 1, 1]), (CROSSED, [0, 1])]

# For each function: how many arguments it takes, and arguments with which it is called, some of them wrong.
INTERFACE = {
    "programs": {
        "is_deed": (1, [(TAKE_0,), (["take", 0],)]),
        "is_program": (1, [(UP,), ([TAKE_0],), ([["work", 1]],)]),
        "length": (1, [(UP,), ([TAKE_0],)]),
        "locks_used": (1, [(UP,), ([TAKE_0],)]),
        "longest_hold": (1, [(UP,), ([TAKE_0],)]),
        "nested_pairs": (1, [(UP,), ([TAKE_0],)]),
        "plainest": (1, [([("work", 1)] * 3,), (UP,), ([TAKE_0],)]),
    },
    "halls": {
        "is_hall": (1, [(H,), ([(0, [TAKE_0])],)]),
        "whole_work": (1, [(CROSSED,), ([(0, [TAKE_0])],)]),
        "hall_locks": (1, [(CROSSED,), ([(0, [TAKE_0])],)]),
        "hall_hold": (1, [(CROSSED,), ([(0, [TAKE_0])],)]),
        "with_process": (3, [(H, 3, UP), (H, 3, [TAKE_0]), (H * 2, 3, UP)]),
        "later": (2, [(H, 9), (H, 99), ([], 1)]),
    },
    "schedulers": {
        "is_scheduler": (2, [(TOP, 2), (["first"], 2)]),
        "plain_family": (1, [(2,), (4,)]),
    },
    "running": {
        "run": (3, [(LAST, CROSSED, 20), (LAST, H, 201)]),
        "log": (3, [(LAST, CROSSED, 20), (LAST, H, 201)]),
        "status_rows": (3, [(LAST, CROSSED, 20), (LAST, H, 201)]),
        "ends": (3, [(LAST, CROSSED, 20), (LAST, H, 201)]),
    },
    "times": {
        "served": (3, [(LAST, CROSSED, 20), (LAST, H, 201)]),
        "waits": (4, [(LAST, CROSSED, 20, 1), (LAST, H, 20, 2)]),
        "longest_stretch": (4, [(LAST, CROSSED, 20, 1), (LAST, H, 20, 2)]),
        "finish": (4, [(LAST, H, 20, 1), (LAST, CROSSED, 20, 1)]),
        "switches": (3, [(LAST, CROSSED, 20), (LAST, H, 201)]),
        "idle_units": (3, [(LAST, CROSSED, 20), (LAST, H, 201)]),
        "asked_in_vain": (3, [(LAST, CROSSED, 20), (LAST, H, 201)]),
    },
    "reading": {
        "is_record": (1, [(RECORDS[0],), ((H, [7]),)]),
        "made": (2, [(LAST, RECORDS[0]), (LAST, (H, [7]))]),
        "first_bar": (2, [(LAST, RECORDS[0]), (LAST, (H, [7]))]),
        "remains": (2, [(FAMILY, RECORDS), (FAMILY, [(H, [7])])]),
        "bars": (2, [(FAMILY, RECORDS), ([FIRST, ["last"]], RECORDS)]),
        "groups": (3, [(FAMILY, CROSSED, 20), (FAMILY, [], 20)]),
        "needed_units": (3, [(FAMILY, CROSSED, 20), (FAMILY, [], 20)]),
    },
    "games": {
        "count_states": (3, [(TOP, 2, 1), (TOP, 3, 1)]),
    },
    "telling": {
        "same": (4, [(FIRST, LAST, 2, 1), (FIRST, TOP, 3, 1)]),
        "telling_hall": (4, [(FIRST, ("rounds", 2, 0), 2, 1), (FIRST, FIRST, 2, 1)]),
        "classes": (3, [(FAMILY + [FIRST], 2, 1), (FAMILY, 3, 1), ([FIRST, ["last"]], 2, 1)]),
        "telling_table": (3, [(FAMILY, 2, 1), (FAMILY, 3, 1), ([FIRST, ["last"]], 2, 1)]),
    },
    "asking": {
        "best_hall": (3, [(FAMILY, [H, CROSSED], 20), (FAMILY, [H, H[:1]], 20)]),
        "told_apart": (3, [(FAMILY, [H, CROSSED], 20), (FAMILY, [H, H[:1]], 20)]),
        "halls_needed": (3, [(FAMILY, [H, CROSSED], 20), (FAMILY, [H, H[:1]], 20)]),
        "plan_depth": (3, [(FAMILY, [H, CROSSED], 20), (FAMILY * 4, [H, CROSSED], 20)]),
        "plan": (3, [(FAMILY, [H, CROSSED], 20), (FAMILY, [CROSSED], 0), (FAMILY * 4, [H, CROSSED], 20)]),
    },
    "waiting": {
        "longest_wait": (5, [(TOP, 2, 1, 3, 0), (TOP, 2, 1, 3, 2)]),
        "longest_held_back": (5, [(TOP, 2, 1, 3, 0), (TOP, 2, 1, 3, 2)]),
        "all_longest_waits": (4, [(TOP, 2, 1, 3), (TOP, 2, 1, 10)]),
        "waiting_hall": (6, [(TOP, 2, 1, 3, 0, 3), (TOP, 2, 1, 3, 0, 4)]),
        "held_back_hall": (6, [(TAKES, 2, 1, 3, 1, 3), (TAKES, 2, 1, 3, 1, 4)]),
        "is_fair": (3, [(TOP, 2, 1), (TOP, 2, 3)]),
    },
    "deadlocks": {
        "can_stick": (3, [(LAST, 2, 2), (LAST, 4, 2)]),
        "sticking_hall": (3, [(LAST, 2, 2), (LAST, 2, 1)]),
        "stuck_places": (1, [(CROSSED,), ([(0, [TAKE_0])],)]),
        "can_deadlock": (1, [(CROSSED,), ([(0, [TAKE_0])],)]),
        "way_to_deadlock": (1, [(CROSSED,), (H,)]),
        "count_ways": (1, [(CROSSED,), ([(0, [TAKE_0])],)]),
        "is_ordered": (1, [(CROSSED,), ([(0, [TAKE_0])],)]),
    },
    "repairs": {
        "least_moves": (1, [(CROSSED,), ([(0, [TAKE_0])],)]),
        "mended_halls": (1, [(CROSSED,), (H,), ([(0, [TAKE_0])],)]),
        "moved_ahead": (3, [(CROSSED, 0, 2), (CROSSED, 1, 0)]),
    },
    "lags": {
        "steady_round": (2, [(("levels", (1, 2), 0), 2), (TOP, 3)]),
        "steady_shares": (2, [(("levels", (1, 2), 0), 2), (TOP, 3)]),
        "lead_and_lag": (4, [(("rounds", 1, 0), 2, (1, 1), 1), (FIRST, 2, [1, 1], 1)]),
    },
    "texts": {
        "format_program": (1, [(UP,), ([TAKE_0],)]),
        "format_hall": (1, [(CROSSED,), ([(0, [TAKE_0])],)]),
        "format_scheduler": (2, [(TOP, 2), (TOP, 3)]),
        "parse_program": (1, [("work 1, sleep 2",), ("take 0",), (["work 1"],)]),
        "parse_hall": (1, [("0: work 1; 2: ",), ("0: take 0",), (["0: "],)]),
        "parse_scheduler": (2, [("order 0 1 taking top 0 0", 2), ("first", 5), (["first"], 2)]),
    },
}

# For each method: how many arguments it takes beside its own object.
OF_TABLE = {"begin": 2, "tick": 0, "journal": 0, "words": 0, "holders": 0, "undo": 0}


def called(function, given):
    """What a call returns or which error it raises."""
    try:
        return function(*given)
    except TurnError as raised:
        return raised.__class__


def spoil(worth):
    """Change all lists that are anywhere in a value."""
    if isinstance(worth, (list, tuple)):
        for item in worth:
            spoil(item)
    if isinstance(worth, list):
        worth.clear()
        worth.append("spoilt")


def refused(function, given):
    """Which error a call raises, or what it returns."""
    worth = called(function, given)
    return worth.__name__ if inspect.isclass(worth) else worth


class LastThingTest(unittest.TestCase):
    """Only the fourth or the fifth thing of a list is wrong."""

    PROGRAM = [("work", 1), TAKE_0, GIVE_0, ("work", 2)]
    HALL = [(0, UP), (1, []), (2, PROGRAM)]

    def test_programs(self):
        for deed in [("work", 0), ("work", True), ("sleep", 100), ("give", 0), ("take", 1), ["work", 1], None]:
            program = self.PROGRAM + [deed]
            for name in ("length", "locks_used", "longest_hold", "nested_pairs", "plainest"):
                self.assertEqual(refused(self.function("programs", name), (program,)), "BadProgram")
            self.assertEqual(refused(self.function("texts", "format_program"), (program,)), "BadProgram")
            self.assertIs(self.function("programs", "is_program")(program), False)
            self.assertEqual(refused(Table(FIRST, 2).begin, (1, program)), "BadProgram")
        for text in ["work 0", "work 100", "give 0", "work 01", "sleep", "take 0, "]:
            self.assertEqual(refused(self.function("texts", "parse_program"), (f"work 1, take 0, give 0, {text}",)), "BadText")

    def test_halls(self):
        for process in [(-1, []), (True, []), (100, []), (0, [TAKE_1]), (0, ()), [0, []], None]:
            hall = self.HALL + [process]
            for module, name, rest in [
                ("halls", "whole_work", ()), ("halls", "later", (0,)), ("deadlocks", "stuck_places", ()),
                ("deadlocks", "count_ways", ()), ("repairs", "least_moves", ()), ("repairs", "mended_halls", ()),
                ("repairs", "moved_ahead", (0, 2)), ("texts", "format_hall", ()),
            ]:
                self.assertEqual(refused(self.function(module, name), (hall, *rest)), "BadHall", name)
            self.assertEqual(refused(self.function("running", "run"), (FIRST, hall, 9)), "BadHall")
            self.assertEqual(refused(self.function("reading", "groups"), ([FIRST], hall, 9)), "BadRecord")
            for name in ("best_hall", "told_apart", "halls_needed", "plan_depth", "plan"):
                self.assertEqual(refused(self.function("asking", name), ([FIRST], [H, H, H, hall], 9)), "BadRecord")
        for text in ["100: ", "-1: ", "0:", "0: take 0", "00: "]:
            self.assertEqual(refused(self.function("texts", "parse_hall"), (f"0: ; 1: ; 2: work 1; {text}",)), "BadText")

    def test_families_and_records(self):
        for scheduler in [["first"], ("due", (1, 1, 1)), ("rounds", True, 0), None]:
            family = FAMILY + [scheduler]
            for name in ("classes", "telling_table"):
                self.assertEqual(refused(self.function("telling", name), (family, 2, 0)), "BadScheduler")
            for name in ("best_hall", "told_apart", "halls_needed", "plan_depth", "plan"):
                self.assertEqual(refused(self.function("asking", name), (family, [H], 9)), "BadScheduler")
            self.assertEqual(refused(self.function("reading", "bars"), (family, RECORDS)), "BadScheduler")
        for record in [(H, [2]), (H, [True]), (H[:1], [0]), None]:
            self.assertEqual(refused(self.function("reading", "remains"), (FAMILY, RECORDS * 2 + [record])), "BadRecord")

    def test_numbers_of_schedulers(self):
        for scheduler in [("order", (0, 1, 2, 2), 0, ("plain",)), ("order", (0, 1, 2, 4), 0, ("plain",)),
                          ("aging", (0, 1, 2, True), 1), ("due", (1, 1, 1, 7)), ("due", (1, 1, 1, 0)),
                          ("shares", (1, 1, 1, 5)), ("shares", (1, 1, 1, False)), ("levels", (1, 1, 1, 1), 0)]:
            for name in ("steady_round", "steady_shares"):
                self.assertEqual(refused(self.function("lags", name), (scheduler, 4)), "BadScheduler")
            self.assertEqual(refused(Table, (scheduler, 4)), "BadScheduler")
            self.assertEqual(refused(self.function("texts", "format_scheduler"), (scheduler, 4)), "BadScheduler")
        for number in (0, 10, True, None):
            self.assertEqual(refused(self.function("lags", "lead_and_lag"), (FIRST, 4, (1, 9, 1, number), 0)), "BadNumber")
        for text in ["order 0 1 2 2 taking plain", "due 1 1 1 7", "shares 1 1 1 0", "aging 0 1 2 4 step 1",
                     "order 0 1 2 3 taking top 3 4"]:
            self.assertEqual(refused(self.function("texts", "parse_scheduler"), (text, 4)), "BadText")

    def function(self, module, name):
        return getattr(importlib.import_module(f"processturns.{module}"), name)


class InterfaceTest(unittest.TestCase):
    def functions(self):
        for module, rows in INTERFACE.items():
            for name, (many, calls) in rows.items():
                function = getattr(importlib.import_module(f"processturns.{module}"), name)
                yield module, name, function, many, calls

    def test_all_are_defined_in_their_files(self):
        for module, rows in [*INTERFACE.items(), ("halltable", {"Table": None})]:
            tree = ast.parse((PACKAGE / f"{module}.py").read_text())
            defined = [node.name for node in tree.body if isinstance(node, (ast.FunctionDef, ast.ClassDef))]
            for name in rows:
                self.assertIn(name, defined, module)

    def test_how_many_arguments_they_take(self):
        for _, name, function, many, _ in self.functions():
            self.assertEqual(len(inspect.signature(function).parameters), many, name)
        for name, many in OF_TABLE.items():
            self.assertEqual(len(inspect.signature(vars(Table)[name]).parameters), many + 1, name)

    def test_no_argument_is_changed(self):
        raised = set()
        for module, name, function, _, calls in self.functions():
            for given in calls:
                before = copy.deepcopy(given)
                worth = called(function, given)
                self.assertEqual(given, before, name)
                if inspect.isclass(worth):
                    raised.add(name)
        # Each function that can raise an error was called so that it does.
        never = {name for rows in INTERFACE.values() for name in rows if name.startswith("is_")} - {"is_fair", "is_ordered"}
        self.assertEqual(raised, {name for rows in INTERFACE.values() for name in rows} - never)

    def test_what_is_returned_is_new(self):
        for _, name, function, _, calls in self.functions():
            for given in calls:
                expected = copy.deepcopy(called(function, given))
                before = copy.deepcopy(given)
                spoil(called(function, given))
                self.assertEqual(given, before, name)
                self.assertEqual(called(function, given), expected, name)

    def test_errors(self):
        self.assertTrue(issubclass(TurnError, ValueError))
        for name in ["BadProgram", "BadHall", "BadScheduler", "BadNumber", "BadRecord", "BadText", "NotFound"]:
            error = getattr(errors, name)
            self.assertEqual(error.__bases__, (TurnError,))
            self.assertEqual(error.__module__, "processturns.errors")

    def test_tables_change_no_argument(self):
        table = Table(TOP, 2)
        for program in [UP, [TAKE_0], ["x"]]:
            before = copy.deepcopy(program)
            called(table.begin, (0, program))
            self.assertEqual(program, before)
        for call in (table.journal, table.words, table.holders):
            table.tick()
            expected = call()
            spoil(call())
            self.assertEqual(call(), expected)


if __name__ == "__main__":
    unittest.main()
