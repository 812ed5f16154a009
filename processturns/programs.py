"""Programs: lists of the deeds that a process does, one after the other."""

from processturns.checks import is_number
from processturns.errors import BadProgram

MOST_DEEDS = 40
MOST_UNITS = 99


def is_deed(value):
    """Return True if the value is a deed, else False."""
    if not isinstance(value, tuple) or len(value) != 2:
        return False
    kind, number = value
    if not isinstance(kind, str):
        return False
    if kind in ("work", "sleep"):
        return is_number(number, 1, MOST_UNITS)
    return kind in ("take", "give") and is_number(number, 0, 1)


def is_program(value):
    """Return True if the value is a program, else False."""
    if not isinstance(value, list) or len(value) > MOST_DEEDS:
        return False
    return all(is_deed(deed) for deed in value) and _locks_fit(value)


def _locks_fit(deeds):
    """Return True if all locks are taken, given and held as a program may."""
    held = []
    for kind, number in deeds:
        if kind == "sleep" and held:
            return False
        if kind == "take":
            if number in held:
                return False
            held.append(number)
        if kind == "give":
            if number not in held:
                return False
            held.remove(number)
    return not held


def check_program(value):
    """Raise BadProgram if the value is no program."""
    if not is_program(value):
        raise BadProgram("this is no program")


def length(program):
    """Return how many units the program needs if it never asks in vain."""
    check_program(program)
    # One unit more than the deeds need: the one in which the program ends.
    return sum(_units(deed) for deed in program) + 1


def _units(deed):
    """Return how many units of its own program a deed needs."""
    kind, number = deed
    return number if kind == "work" else 1


def locks_used(program):
    """Return the ascending list of the locks that the program takes."""
    check_program(program)
    return sorted({number for kind, number in program if kind == "take"})


def longest_hold(program):
    """Return the greatest number of units from behind a taking up to its giving."""
    check_program(program)
    longest = 0
    done = 0
    taken = [0, 0]
    for deed in program:
        kind, number = deed
        done += _units(deed)
        if kind == "take":
            taken[number] = done
        if kind == "give":
            longest = max(longest, done - taken[number])
    return longest


def nested_pairs(program):
    """Return the ascending list of the (a, b): lock b is taken while a is held."""
    check_program(program)
    pairs = set()
    held = []
    for kind, number in program:
        if kind == "take":
            for other in held:
                pairs.add((other, number))
            held.append(number)
        if kind == "give":
            held.remove(number)
    return sorted(pairs)


def plainest(program):
    """Return the program with works put together, from the left, where they fit."""
    check_program(program)
    plain = []
    for deed in program:
        if plain and _is_one_work(plain[-1], deed):
            plain[-1] = ("work", plain[-1][1] + deed[1])
        else:
            plain.append(deed)
    return plain


def _is_one_work(one, other):
    """Return True if both deeds are works that can be put together."""
    if one[0] != "work" or other[0] != "work":
        return False
    return one[1] + other[1] <= MOST_UNITS
