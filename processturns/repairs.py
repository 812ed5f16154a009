"""Repairs: halls without a deadlock, by as few moves of takings as can be."""

from itertools import combinations

from processturns.checks import check_number
from processturns.errors import BadNumber, NotFound
from processturns.halls import check_hall
from processturns.interleavings import Interleaving, lock_row

MOST_HALLS = 20000


def _moves_ahead(program, place):
    """Return True if at the place there is a taking that one move can set ahead."""
    return program[place][0] == "take" and program[place - 1][0] in ("work", "take")


def _program_moved(program, place):
    """Return the program, a list or a tuple, after the move of the taking at the place."""
    return program[:place - 1] + program[place:place + 1] + program[place - 1:place] + program[place + 1:]


def moved_ahead(hall, slot, place):
    """Return the hall after one move of the taking at a place of a process's program."""
    check_hall(hall)
    check_number(slot, 0, len(hall) - 1)
    check_number(place, 1, len(hall[slot][1]) - 1)
    if not _moves_ahead(hall[slot][1], place):
        raise BadNumber("there is no such move")
    moved = [(comes, list(program)) for comes, program in hall]
    comes, program = moved[slot]
    moved[slot] = (comes, _program_moved(program, place))
    return moved


class Mender:
    """The programs of a hall, as tuples, and what moves lead to."""

    def __init__(self, hall):
        self.start = tuple([tuple(program) for _, program in hall])
        # For two rows of takings and givings, whether they can come into a deadlock.
        self.stuck = {}

    def _rows_stick(self, row, other):
        """Return True if the two rows together can come into a deadlock."""
        if (row, other) not in self.stuck:
            self.stuck[(row, other)] = len(Interleaving([row, other]).deadlocks()) > 0
        return self.stuck[(row, other)]

    def can_deadlock(self, programs):
        """Return True if there is a deadlock, which with two locks is one of two processes."""
        rows = [lock_row(program) for program in programs]
        return any([self._rows_stick(row, other) for row, other in combinations(rows, 2)])

    def after_moves(self, programs):
        """Return the list of the programs after one move, for each move."""
        found = []
        for slot, program in enumerate(programs):
            for place in range(1, len(program)):
                if _moves_ahead(program, place):
                    found.append(programs[:slot] + (_program_moved(program, place),) + programs[slot + 1:])
        return found

    def mended(self):
        """Return the least number of moves, and the list of all programs that so many lead to without a deadlock."""
        seen = {self.start: True}
        level = [self.start]
        moves = 0
        while level:
            free = [programs for programs in level if not self.can_deadlock(programs)]
            if free:
                return moves, free
            further = []
            for programs in level:
                for after in self.after_moves(programs):
                    if after not in seen:
                        seen[after] = True
                        further.append(after)
                if len(seen) > MOST_HALLS:
                    raise NotFound("there are more than 20000 halls to look at")
            level = further
            moves += 1
        raise NotFound("no moves lead to a hall without a deadlock")


def least_moves(hall):
    """Return the least number of moves after which the hall has no deadlock."""
    check_hall(hall)
    return Mender(hall).mended()[0]


def mended_halls(hall):
    """Return the ascending list of all halls without a deadlock after as few moves."""
    check_hall(hall)
    times = [comes for comes, _ in hall]
    found = []
    for programs in Mender(hall).mended()[1]:
        found.append([(comes, list(program)) for comes, program in zip(times, programs)])
    return sorted(found)
