"""Schedulers as tuples, and the family of the plain ones."""

from itertools import permutations

from processturns.checks import is_number, is_row
from processturns.errors import BadScheduler

MOST_IN_FAMILY = 40


def _first_word(value):
    """Return the word that a tuple begins with, "" if the value has none."""
    if not isinstance(value, tuple) or not value:
        return ""
    return value[0] if isinstance(value[0], str) else ""


def _is_order(value, size):
    """Return True if the value is a tuple of all processes."""
    if not is_row(value, size, 0, size - 1):
        return False
    return sorted(value) == list(range(size))


def _is_rule(value, size):
    """Return True if the value is a rule of an order."""
    word = _first_word(value)
    if word == "top":
        return len(value) == 2 and is_row(value[1], 2, 0, size - 1)
    return word in ("plain", "lent") and len(value) == 1


def _is_bare(value, size):
    """Return True if a scheduler is nothing but its word, whatever the size."""
    return len(value) == 1


def _is_by_order(value, size):
    """Return True if what follows "order" is valid."""
    if len(value) != 4:
        return False
    if not _is_order(value[1], size) or not is_number(value[2], 0, 1):
        return False
    return _is_rule(value[3], size)


def _is_by_rounds(value, size):
    """Return True if what follows "rounds" is valid, for all sizes alike."""
    if len(value) != 3:
        return False
    return is_number(value[1], 1, 4) and is_number(value[2], 0, 1)


def _is_by_levels(value, size):
    """Return True if what follows "levels" is valid, for all sizes alike."""
    if len(value) != 3 or not is_number(value[2], 0, 8):
        return False
    return any(is_row(value[1], many, 1, 4) for many in (1, 2, 3))


def _is_by_age(value, size):
    """Return True if what follows "aging" is valid."""
    if len(value) != 3:
        return False
    return _is_order(value[1], size) and is_number(value[2], 1, 3)


def _is_by_limits(value, size):
    """Return True if what follows "due" is valid."""
    return len(value) == 2 and is_row(value[1], size, 1, 6)


def _is_by_weights(value, size):
    """Return True if what follows "shares" is valid."""
    return len(value) == 2 and is_row(value[1], size, 1, 4)


KINDS = {
    "first": _is_bare,
    "last": _is_bare,
    "order": _is_by_order,
    "rounds": _is_by_rounds,
    "levels": _is_by_levels,
    "aging": _is_by_age,
    "due": _is_by_limits,
    "shares": _is_by_weights,
}


def is_scheduler(value, size):
    """Return True if the value is a scheduler for the size, else False."""
    if not is_number(size, 1, 4):
        return False
    word = _first_word(value)
    if word not in KINDS:
        return False
    fits = KINDS[word]
    return fits(value, size)


def check_scheduler(value, size):
    """Raise BadScheduler if the value is no scheduler for the size."""
    if not is_scheduler(value, size):
        raise BadScheduler("this is no scheduler for the size")


def check_family(value, size):
    """Raise BadScheduler if the value is no family of schedulers for the size."""
    if not isinstance(value, list) or not 1 <= len(value) <= MOST_IN_FAMILY:
        raise BadScheduler("a family is a list of 1 to 40 schedulers")
    for item in value:
        check_scheduler(item, size)


def plain_family(size):
    """Return first, last, the plain orders and the rounds of 1 to 3 units."""
    if not is_number(size, 1, 3):
        raise BadScheduler("a plain family has a size from 1 to 3")
    family = [("first",), ("last",)]
    for order in permutations(range(size)):
        for taking in (0, 1):
            family.append(("order", order, taking, ("plain",)))
    for quantum in (1, 2, 3):
        for late in (0, 1):
            family.append(("rounds", quantum, late))
    return family
