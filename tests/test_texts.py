"""The interface of processturns/texts.py."""

import unittest
from itertools import permutations, product

from counted import PARTS, hall_by_number, schedulers_of, some
from processturns import texts
from processturns.errors import BadHall, BadNumber, BadProgram, BadScheduler, BadText
from processturns.halls import is_hall
from processturns.programs import is_program
from processturns.schedulers import is_scheduler
from processturns.texts import (
    format_hall, format_program, format_scheduler, parse_hall, parse_program, parse_scheduler,
)
from refusals import raises_in_order
from values import GIVE_0, GIVE_1, H, NO_HALLS, NO_INTEGERS, NO_PROGRAMS, NO_SCHEDULERS, TAKE_0, TAKE_1

NO_STRINGS = [None, True, 0, 1, b"", b"work 1", [], ["work 1"], (), {}, {"work 1"}, object(), str]
NO_SIZES = [0, -1, 5, 6] + NO_INTEGERS
SIGNS = "0129 ,;:-+_.wora\n\t\u00b2\u0661\uff11W"


def changed(text):
    """The text with a sign dropped, doubled, exchanged with the next one, put in or replaced, at each place."""
    found = []
    for at in range(len(text) + 1):
        found += [text[:at] + sign + text[at:] for sign in SIGNS]
        if at < len(text):
            found += [text[:at] + text[at + 1:], text[:at] + text[at] + text[at:], text[:at]]
            found += [text[:at] + sign + text[at + 1:] for sign in SIGNS]
            found += [text[:at] + text[at:at + 2][::-1] + text[at + 2:], text[:at] + text[at].upper() + text[at + 1:]]
    return sorted(set(found) - {text})


class BothWaysTest(unittest.TestCase):
    def both(self, parse, write, worth, text, *size):
        self.assertEqual(write(worth, *size), text)
        self.assertEqual(parse(text, *size), worth)

    def told_or_refused(self, parse, write, valid, text, *size):
        """What a text tells formats to the text; returns whether it tells something."""
        try:
            worth = parse(text, *size)
        except BadText:
            return False
        self.assertTrue(valid(worth, *size), text)
        self.assertEqual(write(worth, *size), text)
        return True


class ProgramTest(BothWaysTest):
    def test_known_texts(self):
        self.both(parse_program, format_program, [], "")
        self.both(parse_program, format_program, [("work", 2)], "work 2")
        self.both(parse_program, format_program, [TAKE_0, ("work", 10), TAKE_1, GIVE_0, GIVE_1, ("sleep", 99)],
                  "take 0, work 10, take 1, give 0, give 1, sleep 99")

    def test_lengths(self):
        self.both(parse_program, format_program, [("work", 1)] * 40, ", ".join(["work 1"] * 40))
        self.assertRaises(BadText, parse_program, ", ".join(["work 1"] * 41))
        for number in range(1, 100):
            self.both(parse_program, format_program, [("sleep", number)], f"sleep {number}")
        for number in ["0", "100", "-1", "+1", "01", "1.0", " 1", "1 ", "", "\u0661", "\u00b2", "1_0", "1" * 5000]:
            self.assertRaises(BadText, parse_program, f"work {number}")

    def test_not_the_text_of_a_program(self):
        for text in ["take 0", "give 0", "take 0, take 0, give 0", "take 0, sleep 1, give 0", "take 2, give 2",
                     "take 0, give 1", "take 00, give 0", "take -0, give 0"]:
            self.assertRaises(BadText, parse_program, text)
        for text in [" ", ",", ", ", "work", "work ", "work1", "Work 1", "WORK 1", "work 1,", "work 1, ", "work 1,work 1",
                     "work 1,  work 1", "work 1 , work 1", "work 1; work 1", "work 1\n", "run 1", "work 1 2", "work  1",
                     "('work', 1)", "[]", "None", "work 1, , work 1"]:
            self.assertRaises(BadText, parse_program, text)

    def test_many_programs_both_ways(self):
        for one, other in product(PARTS, repeat=2):
            text = format_program(one + other)
            self.assertEqual(parse_program(text), one + other)

    def test_changed_texts(self):
        told = 0
        for text in ["", "work 2", "sleep 10, work 9", "take 0, work 1, take 1, give 1, give 0, sleep 99"]:
            for other in changed(text):
                told += self.told_or_refused(parse_program, format_program, is_program, other)
        self.assertGreater(told, 10)

    def test_arguments(self):
        for program in NO_PROGRAMS:
            self.assertRaises(BadProgram, format_program, program)
        for text in NO_STRINGS:
            self.assertRaises(BadText, parse_program, text)

    def test_lists_are_new(self):
        parse_program("work 1").clear()
        parse_program("").append(1)
        self.assertEqual(parse_program("work 1"), [("work", 1)])
        self.assertEqual(parse_program(""), [])


class HallTest(BothWaysTest):
    def test_example_of_the_document(self):
        self.both(parse_hall, format_hall, H, "0: work 2; 1: work 1")

    def test_known_texts(self):
        self.both(parse_hall, format_hall, [(0, [])], "0: ")
        self.both(parse_hall, format_hall, [(99, []), (10, [])], "99: ; 10: ")
        self.both(parse_hall, format_hall, [(7, []), (0, [TAKE_1, GIVE_1]), (0, [])], "7: ; 0: take 1, give 1; 0: ")

    def test_sizes(self):
        for size in (1, 2, 3, 4):
            self.both(parse_hall, format_hall, [(1, [("work", 3)])] * size, "; ".join(["1: work 3"] * size))
        self.assertRaises(BadText, parse_hall, "; ".join(["1: work 3"] * 5))

    def test_not_the_text_of_a_hall(self):
        for text in ["", " ", "0", "0:", "0: ;", "0: ; ", "; 0: ", "0:work 1", "0:  work 1", "00: ", "-1: ", "100: ", "+1: ",
                     "01: work 1", "0 : work 1", "0: work 1;1: work 1", "0: work 1 ; 1: work 1", "0: work 1, 1: work 1",
                     "0: 0: ", "0: work 1: ", "x: ", ": work 1", "0: take 0", "\u0661: ", "0: work 1;  1: work 1", "1" * 5000]:
            self.assertRaises(BadText, parse_hall, text)

    def test_many_halls_both_ways(self):
        for size in (1, 2, 3, 4):
            for number in range(100):
                hall = hall_by_number(number, size)
                self.assertEqual(parse_hall(format_hall(hall)), hall)

    def test_changed_texts(self):
        told = 0
        for text in ["0: ", "0: work 2; 1: work 1", "10: take 0, give 0; 0: ; 9: sleep 3", "1: ; 2: ; 0: work 20; 3: "]:
            for other in changed(text):
                told += self.told_or_refused(parse_hall, format_hall, is_hall, other)
        self.assertGreater(told, 10)

    def test_arguments(self):
        for hall in NO_HALLS:
            self.assertRaises(BadHall, format_hall, hall)
        for text in NO_STRINGS:
            self.assertRaises(BadText, parse_hall, text)

    def test_lists_are_new(self):
        parse_hall("0: work 2")[0][1].clear()
        parse_hall("0: work 2").clear()
        self.assertEqual(parse_hall("0: work 2"), [(0, [("work", 2)])])


class SchedulerTest(BothWaysTest):
    KNOWN = [
        (("first",), "first"), (("last",), "last"),
        (("order", (1, 0), 1, ("plain",)), "order 1 0 taking plain"),
        (("order", (1, 0), 0, ("plain",)), "order 1 0 keeping plain"),
        (("order", (0, 1), 1, ("lent",)), "order 0 1 taking lent"),
        (("order", (0, 1), 0, ("top", (0, 1))), "order 0 1 keeping top 0 1"),
        (("rounds", 2, 0), "rounds 2 early"), (("rounds", 4, 1), "rounds 4 late"),
        (("levels", (1, 2), 0), "levels 1 2 raised 0"), (("levels", (4,), 8), "levels 4 raised 8"),
        (("levels", (1, 2, 3), 1), "levels 1 2 3 raised 1"), (("aging", (0, 1), 2), "aging 0 1 step 2"),
        (("due", (3, 4)), "due 3 4"), (("shares", (1, 2)), "shares 1 2"),
    ]

    def test_known_texts(self):
        for scheduler, text in self.KNOWN:
            self.both(parse_scheduler, format_scheduler, scheduler, text, 2)

    def test_all_sizes_both_ways(self):
        for size in (1, 2, 3, 4):
            found = schedulers_of(size)
            told = [format_scheduler(scheduler, size) for scheduler in found]
            self.assertEqual(len(set(told)), len(set(found)))
            self.assertEqual([parse_scheduler(text, size) for text in told], found)
            for order in permutations(range(size)):
                text = "order " + " ".join(map(str, order)) + " taking plain"
                self.both(parse_scheduler, format_scheduler, ("order", order, 1, ("plain",)), text, size)

    def test_only_of_this_size(self):
        for size in (1, 2, 3, 4):
            for scheduler in some(schedulers_of(size), 80):
                text = format_scheduler(scheduler, size)
                for other in (1, 2, 3, 4):
                    if is_scheduler(scheduler, other):
                        self.assertEqual(parse_scheduler(text, other), scheduler)
                    else:
                        self.assertRaises(BadText, parse_scheduler, text, other)

    def test_not_the_text_of_a_scheduler(self):
        for text in ["", " ", "First", "first ", " first", "first 1", "next", "order", "order 1 0", "order 1 0 taking",
                     "order 1 0 plain", "order 1 1 taking plain", "order 1 0 taking plain 0", "order 0 1 2 taking plain",
                     "order 1 0 taken plain", "order 1 0 1 plain", "order 1 0 taking top", "order 1 0 taking top 0",
                     "order 1 0 taking top 0 2", "order 1 0 taking top 0 1 1", "order 1 0 taking lent 0 1", "rounds",
                     "rounds 2", "rounds 0 early", "rounds 5 late", "rounds 2 Late", "rounds 2 0", "rounds 02 early",
                     "rounds 2 early late", "levels raised 0", "levels 1 2", "levels 1 2 3 4 raised 0", "levels 1 raised 9",
                     "levels 1 2 raised", "levels 5 raised 0", "levels 1 2 step 0", "aging 0 1 step 0", "aging 0 1 step 4",
                     "aging 0 1", "aging 0 1 raised 1", "aging 1 1 step 1", "aging step 1", "due", "due 3", "due 0 1",
                     "due 7 1", "due 3 4 1", "shares 1", "shares 1 5", "shares 1  2", "shares 1 \u0662", "due 3 4\n"]:
            self.assertRaises(BadText, parse_scheduler, text, 2)

    def test_changed_texts(self):
        told = 0
        for size in (1, 2, 3, 4):
            known = [text for _, text in self.KNOWN] if size == 2 else []
            for text in known + [format_scheduler(scheduler, size) for scheduler in some(schedulers_of(size), 25)]:
                for other in changed(text):
                    told += self.told_or_refused(parse_scheduler, format_scheduler, is_scheduler, other, size)
        self.assertGreater(told, 100)

    def test_arguments(self):
        raises_in_order(self, format_scheduler, (("first",), 2), [
            (1, NO_SIZES, BadNumber), (0, NO_SCHEDULERS, BadScheduler),
        ])
        raises_in_order(self, parse_scheduler, ("first", 2), [
            (1, NO_SIZES, BadNumber), (0, NO_STRINGS + ["", "next", "due 1"], BadText),
        ])

    def test_all_are_defined_in_texts(self):
        for function in (format_program, format_hall, format_scheduler, parse_program, parse_hall, parse_scheduler):
            self.assertEqual(function.__module__, texts.__name__)


if __name__ == "__main__":
    unittest.main()
