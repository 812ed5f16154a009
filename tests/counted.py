"""Halls and schedulers that are made by counting: the digits of a number tell what is in them."""

import itertools

from values import GIVE_0, GIVE_1, TAKE_0, TAKE_1

# Whatever follows another of these is a program with it.
PARTS = [
    [], [("work", 1)], [("work", 2)], [("work", 5)], [("sleep", 1)], [("sleep", 3)],
    [TAKE_0, GIVE_0], [TAKE_0, ("work", 2), GIVE_0], [TAKE_1, ("work", 1), GIVE_1],
    [TAKE_0, TAKE_1, GIVE_1, GIVE_0], [TAKE_1, TAKE_0, ("work", 1), GIVE_1, GIVE_0],
    [TAKE_0, ("work", 1), TAKE_1, GIVE_0, ("work", 1), GIVE_1], [TAKE_1, ("work", 3), TAKE_0, GIVE_0, GIVE_1],
]

SHORT = [
    [], [("work", 3)], [("work", 1), ("sleep", 1), ("work", 1)], [TAKE_0, ("work", 1), GIVE_0],
    [("work", 1), TAKE_0, GIVE_0, ("work", 2)], [TAKE_0, TAKE_1, GIVE_0, GIVE_1],
    [TAKE_1, ("work", 1), TAKE_0, GIVE_1, GIVE_0], [("sleep", 2), TAKE_1, ("work", 2), GIVE_1],
]


def digits(number, bases):
    """The digits of a number, the last ones first, in these bases."""
    found = []
    for base in bases:
        number, digit = divmod(number, base)
        found.append(digit)
    return found


def hall_by_number(number, size):
    """A hall whose processes come in units 0 to 6, with up to four parts each."""
    # The step has no divisor in common with the bases, so that all digits change from hall to hall.
    rest = number * 1000003
    hall = []
    for _ in range(size):
        many = 7 * len(PARTS) ** 4
        time, *parts = digits(rest % many, [7] + [len(PARTS)] * 4)
        rest = rest // many + number * 7919
        hall.append((time, [deed for part in parts for deed in PARTS[part]]))
    return hall


def short_halls():
    """All halls of two processes with short programs that come in units 0 to 2."""
    processes = list(itertools.product(range(3), SHORT))
    return [list(pair) for pair in itertools.product(processes, repeat=2)]


def some(rows, many):
    """At most so many of the rows, evenly."""
    return rows[::max(1, len(rows) // many)]


def schedulers_of(size):
    """Many schedulers of each kind, for a size."""
    orders = some(list(itertools.permutations(range(size))), 6)
    tops = some(list(itertools.product(range(size), repeat=2)), 4)
    rules = [("plain",), ("lent",)] + [("top", row) for row in tops]
    found = [("first",), ("last",)]
    found += [("order", order, taking, rule) for order in orders for taking in (0, 1) for rule in rules]
    found += [("rounds", quantum, late) for quantum in (1, 2, 3, 4) for late in (0, 1)]
    found += [
        ("levels", quanta, raised) for quanta in [(1,), (3,), (1, 2), (2, 1), (1, 1, 4), (2, 3, 1)]
        for raised in (0, 1, 3, 8)
    ]
    found += [("aging", order, step) for order in orders for step in (1, 2, 3)]
    found += [("due", row) for row in some(list(itertools.product((1, 3, 6), repeat=size)), 9)]
    found += [("shares", row) for row in some(list(itertools.product((1, 2, 3, 4), repeat=size)), 9)]
    return found


def family_of(size):
    """A family of 40 schedulers with each kind in it."""
    found = schedulers_of(size)
    return [found[number * len(found) // 40] for number in range(40)]
