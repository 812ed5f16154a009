"""Halls: the processes that come, with their times and programs."""

from processturns.checks import is_number
from processturns.errors import BadHall
from processturns.programs import is_program, length, locks_used, longest_hold

MOST_PROCESSES = 4
LAST_TIME = 99


def is_hall(value):
    """Return True if the value is a hall, else False."""
    if not isinstance(value, list):
        return False
    if not 1 <= len(value) <= MOST_PROCESSES:
        return False
    return all(_is_process(process) for process in value)


def _is_process(value):
    """Return True if the value is a tuple of a time of coming and a program."""
    if not isinstance(value, tuple) or len(value) != 2:
        return False
    return is_number(value[0], 0, LAST_TIME) and is_program(value[1])


def check_hall(value):
    """Raise BadHall if the value is no hall."""
    if not is_hall(value):
        raise BadHall("this is no hall")


def whole_work(hall):
    """Return the sum of the lengths of all programs."""
    check_hall(hall)
    return sum(length(program) for _, program in hall)


def hall_locks(hall):
    """Return the ascending list of the locks that the programs take."""
    check_hall(hall)
    return sorted({lock for _, program in hall for lock in locks_used(program)})


def hall_hold(hall):
    """Return the greatest of the longest holds of the programs."""
    check_hall(hall)
    return max(longest_hold(program) for _, program in hall)


def with_process(hall, comes, program):
    """Return the hall with one process more at the end."""
    check_hall(hall)
    longer = hall + [(comes, program)]
    check_hall(longer)
    return _moved(longer, 0)


def later(hall, by):
    """Return the hall in which all come so many units later."""
    check_hall(hall)
    if not is_number(by, 0, LAST_TIME):
        raise BadHall("all come by 0 to 99 units later")
    moved = _moved(hall, by)
    check_hall(moved)
    return moved


def _moved(hall, by):
    """Return a new hall, its programs new too, so many units later."""
    return [(comes + by, list(program)) for comes, program in hall]
