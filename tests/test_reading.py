"""The interface of processturns/reading.py."""

import copy
import unittest

from counted import family_of, hall_by_number
from processturns import reading
from processturns.errors import BadNumber, BadRecord, BadScheduler
from processturns.reading import bars, first_bar, groups, is_record, made, needed_units, remains
from processturns.running import run
from processturns.schedulers import plain_family
from values import H, NO_FAMILIES, NO_HALLS, NO_LISTS, NO_RECORDS, NO_SCHEDULERS, NO_UNITS, TAKE_0

FIRST, LAST = ("first",), ("last",)
BOTH = [FIRST, LAST]
ONE = [(2, [("work", 1)])]
LONG = [(0, [("work", 99)] * 3), (99, [])]


class RecordTest(unittest.TestCase):
    def test_records(self):
        for value in [(H, []), (H, [0]), (H, [1, None, 0]), (H, [None]), (H, [0] * 200), (ONE, [0, 0]),
                      ([(0, [])] * 4, [0, 1, 2, 3, None])]:
            self.assertIs(is_record(value), True, value)

    def test_other_values_are_no_records(self):
        for value in NO_RECORDS:
            self.assertIs(is_record(value), False, value)

    def test_only_processes_of_the_hall(self):
        for size in [1, 2, 3, 4]:
            for who in range(-1, 6):
                self.assertIs(is_record(([(0, [])] * size, [who])), 0 <= who < size, (size, who))


class MadeTest(unittest.TestCase):
    """The run of first is [0, 0, 0, 1, 1], that of last [0, 1, 1, 0, 0]."""

    def both(self, scheduler, record, bar):
        self.assertEqual(first_bar(scheduler, record), bar, record)
        self.assertIs(made(scheduler, record), bar is None, record)

    def test_the_run_begins_so(self):
        for many in range(6):
            self.both(FIRST, (H, [0, 0, 0, 1, 1][:many]), None)
            self.both(LAST, (H, [0, 1, 1, 0, 0][:many]), None)

    def test_the_run_is_otherwise(self):
        self.both(FIRST, (H, [0, 1]), 1)
        self.both(FIRST, (H, [1, 0, 0]), 0)
        self.both(FIRST, (H, [0, 0, 0, 1, 0]), 4)
        self.both(FIRST, (H, [0, 0, 0, 0, 0]), 3)
        self.both(FIRST, (H, [None, 0]), 0)
        self.both(LAST, (H, [0, 0, 0, 1, 1]), 1)

    def test_the_run_has_ended(self):
        self.both(FIRST, (H, [0, 0, 0, 1, 1, None]), 5)
        self.both(FIRST, (H, [0, 0, 0, 1, 1, 1]), 5)
        self.both(FIRST, (H, [0, 0, 0, 1, 1, None, None]), 5)
        self.both(FIRST, (H, [0, 0, 1] + [None] * 197), 2)

    def test_nobody_runs(self):
        self.both(FIRST, (ONE, [None, None, 0, 0]), None)
        self.both(FIRST, (ONE, [None]), None)
        self.both(FIRST, (ONE, [None, 0]), 1)
        self.both(FIRST, (ONE, [None, None, None]), 2)

    def test_200_units(self):
        self.both(FIRST, (LONG, [0] * 200), None)
        self.both(FIRST, (LONG, [0] * 199 + [1]), 199)
        self.both(LAST, (LONG, [0] * 200), 99)

    def test_records_are_checked_first(self):
        for function in [made, first_bar]:
            for record in NO_RECORDS:
                self.assertRaises(BadRecord, function, FIRST, record)
                self.assertRaises(BadRecord, function, None, record)
            for scheduler in NO_SCHEDULERS:
                self.assertRaises(BadScheduler, function, scheduler, (H, [0]))
            self.assertRaises(BadScheduler, function, ("due", (1, 1)), (ONE, [0]))
            self.assertRaises(BadRecord, function, FIRST, (H, [0] * 201))


class RemainsTest(unittest.TestCase):
    def test_example_of_the_document(self):
        self.assertEqual(remains(BOTH, [(H, [0, 1])]), [1])

    def test_all_records_have_to_fit(self):
        other = [(0, [("work", 1)]), (0, [])]
        self.assertEqual(remains(BOTH, [(H, [0])]), [0, 1])
        self.assertEqual(remains(BOTH, [(H, [0]), (other, [1])]), [1])
        self.assertEqual(remains(BOTH, [(H, [0, 0]), (other, [1])]), [])
        self.assertEqual(remains([LAST, FIRST, LAST, FIRST], [(H, [0, 0]), (other, [0])]), [1, 3])

    def test_bars(self):
        other = [(0, [("work", 1)]), (0, [])]
        self.assertEqual(bars(BOTH, [(H, [0, 1])]), [(0, 1), None])
        self.assertEqual(bars(BOTH, [(H, [0]), (other, [1])]), [(1, 0), None])
        self.assertEqual(bars(BOTH, [(H, [0, 0]), (other, [1]), (other, [0, 0, 1, 0])]), [(1, 0), (0, 1)])
        self.assertEqual(bars([FIRST], [(H, [0, 0, 0, 1, 1, 1]), (other, [1])]), [(0, 5)])

    def test_records_of_its_own_never_bar(self):
        for size in [1, 2, 3, 4]:
            halls = [hall_by_number(number, size) for number in range(4)]
            family = family_of(size)
            for place in range(0, 40, 7):
                records = [(hall, run(family[place], hall, 40)) for hall in halls]
                self.assertIn(place, remains(family, records))
                self.assertIsNone(bars(family, records)[place])

    def test_1_and_20_records_and_1_and_40_schedulers(self):
        self.assertEqual(remains([FIRST], [(H, [0])]), [0])
        self.assertEqual(remains([FIRST] * 40, [(H, [0])] * 20), list(range(40)))
        self.assertEqual(bars([FIRST] * 40, [(H, [0])] * 19 + [(H, [1])]), [(19, 0)] * 40)

    def test_wrong_records(self):
        for function in [remains, bars]:
            for records in NO_LISTS + [[], [(H, [0])] * 21, ((H, [0]),), (H, [0])]:
                self.assertRaises(BadRecord, function, BOTH, records)
            for record in NO_RECORDS:
                self.assertRaises(BadRecord, function, BOTH, [record])
                self.assertRaises(BadRecord, function, BOTH, [(H, [0]), record])
            # The second one is not looked at if the first one bars, and yet it has to be a record.
            self.assertRaises(BadRecord, function, BOTH, [(H, [1]), (H, [2])])

    def test_halls_are_of_one_size(self):
        for function in [remains, bars]:
            self.assertRaises(BadRecord, function, BOTH, [(H, [0]), (ONE, [0])])
            self.assertRaises(BadRecord, function, BOTH, [(ONE, []), (ONE, []), (H, [])])
            self.assertRaises(BadRecord, function, None, [(ONE, []), (H, [])])

    def test_wrong_families(self):
        for function in [remains, bars]:
            for family in NO_FAMILIES:
                self.assertRaises(BadScheduler, function, family, [(H, [0])])
                self.assertRaises(BadRecord, function, family, [])
            self.assertRaises(BadScheduler, function, [("due", (1, 1))], [(ONE, [])])
            self.assertRaises(BadScheduler, function, [("due", (1,)), ("due", (1, 1))], [(ONE, [])])


class GroupsTest(unittest.TestCase):
    def test_equal_runs(self):
        self.assertEqual(groups(BOTH, H, 9), [[0], [1]])
        self.assertEqual(groups(BOTH, H, 1), [[0, 1]])
        self.assertEqual(groups(BOTH, H, 0), [[0, 1]])
        self.assertEqual(groups([LAST, FIRST, LAST, ("rounds", 1, 0), FIRST], H, 9), [[0, 2], [1, 4], [3]])

    def test_in_the_order_of_their_first_places(self):
        family = plain_family(2)
        for number in range(20):
            hall = hall_by_number(number, 2)
            found = groups(family, hall, 60)
            self.assertEqual(sorted(sum(found, [])), list(range(len(family))))
            self.assertEqual([places[0] for places in found], sorted(places[0] for places in found))
            for places in found:
                self.assertEqual(places, sorted(places))
                runs = [run(family[place], hall, 60) for place in places]
                self.assertEqual(runs, runs[:1] * len(places))
            firsts = [tuple(run(family[places[0]], hall, 60)) for places in found]
            self.assertEqual(len(set(firsts)), len(firsts))

    def test_needed_units(self):
        self.assertEqual(needed_units(BOTH, H, 9), 2)
        self.assertEqual(needed_units(BOTH, H, 2), 2)
        self.assertEqual(needed_units(BOTH, H, 1), 0)
        self.assertEqual(needed_units(BOTH, H, 0), 0)
        self.assertEqual(needed_units([FIRST], H, 200), 0)
        self.assertEqual(needed_units([FIRST, FIRST], H, 200), 0)
        self.assertEqual(needed_units(BOTH, LONG, 200), 100)
        self.assertEqual(needed_units(BOTH, LONG, 99), 0)
        self.assertEqual(needed_units([LAST, FIRST, ("rounds", 1, 0), ("rounds", 1, 1)], H, 9), 3)

    def test_needed_units_are_the_least(self):
        for size in [2, 3, 4]:
            family = family_of(size)
            for number in range(8):
                hall = hall_by_number(number, size)
                many = len(groups(family, hall, 50))
                needed = needed_units(family, hall, 50)
                self.assertEqual(len(groups(family, hall, needed)), many)
                if needed:
                    self.assertLess(len(groups(family, hall, needed - 1)), many)

    def test_wrong_halls(self):
        for function in [groups, needed_units]:
            for hall in NO_HALLS:
                self.assertRaises(BadRecord, function, BOTH, hall, 9)
            self.assertRaises(BadRecord, function, None, [], None)
            self.assertRaises(BadRecord, function, [("due", (1,))], [(0, [TAKE_0])], -1)

    def test_wrong_families(self):
        for function in [groups, needed_units]:
            for family in NO_FAMILIES:
                self.assertRaises(BadScheduler, function, family, H, 9)
                self.assertRaises(BadScheduler, function, family, H, 201)
            self.assertRaises(BadScheduler, function, [("due", (1, 1))], ONE, 9)
            function([FIRST] * 40, H, 9)

    def test_wrong_units(self):
        for function in [groups, needed_units]:
            for most in NO_UNITS:
                self.assertRaises(BadNumber, function, BOTH, H, most)
            function(BOTH, H, 200)


class GeneralTest(unittest.TestCase):
    CALLS = [
        lambda family, records: is_record(records[0]),
        lambda family, records: made(family[0], records[0]),
        lambda family, records: first_bar(family[0], records[0]),
        remains, bars,
        lambda family, records: groups(family, records[0][0], 9),
        lambda family, records: needed_units(family, records[0][0], 9),
    ]

    def test_no_argument_is_changed(self):
        family, records = list(BOTH), [(copy.deepcopy(H), [0, 1, 1]), (copy.deepcopy(H), [])]
        before = copy.deepcopy((family, records))
        for at, call in enumerate(self.CALLS):
            call(family, records)
            self.assertEqual((family, records), before, at)

    def test_returned_lists_are_new(self):
        for call in [lambda: remains(BOTH, [(H, [0])]), lambda: bars(BOTH, [(H, [0])])]:
            expected = call()
            call().append(None)
            self.assertEqual(call(), expected)
        found = groups(BOTH, H, 1)
        found[0].append(None)
        found.append(None)
        self.assertEqual(groups(BOTH, H, 1), [[0, 1]])

    def test_all_are_defined_in_reading(self):
        for function in [is_record, made, first_bar, remains, bars, groups, needed_units]:
            self.assertEqual(function.__module__, reading.__name__)


if __name__ == "__main__":
    unittest.main()
