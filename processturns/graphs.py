"""The graph of all halls under one scheduler: its states, and how units lead from one to another.

A state of the graph is a tuple (state as in units.py, units left of the holds). With
a hold above 0, the units left are, for each lock, those of its holder's own program
in which it is to be given; 0 for a free lock, and for all if the hold is 0.
"""

from processturns.choosers import chooser_for
from processturns.games import check_states, next_turns
from processturns.histories import history_to
from processturns.units import first_state

NONE_LEFT = (0, 0)


def left_after(left, holders, who, deed, hold):
    """Return the units left after a deed, or None if no program with this hold can go on with it."""
    if not hold or who is None:
        return left
    kind, number = deed
    told = list(left)
    for lock, holder in enumerate(holders):
        if holder == who:
            told[lock] = 0 if deed == ("give", lock) else told[lock] - 1
            # Of two locks, the one taken later has more units left, so one unit is enough here.
            if told[lock] == 0 and deed != ("give", lock):
                return None
    if kind != "take":
        return tuple(told)
    # Asking in vain is no unit of the program's own.
    if holders[number] is not None:
        return left
    told[number] = hold
    return tuple(told)


class Graph:
    """The states of all halls of a size, numbered from 0 as they are found."""

    def __init__(self, scheduler, size, locks, hold):
        self.chooser = chooser_for(scheduler)
        self.locks = locks
        self.hold = hold
        start = (first_state(self.chooser, size), NONE_LEFT)
        self.states = [start]
        self.numbers = {start: 0}
        # From where each state was found first, as in histories.py.
        self.origins = [None]
        self.told = {}

    def turns(self, number):
        """Return the list of what a unit after a state can be: tuples (who come, who runs, branches).

        The branches are a list of tuples (deed, number of the state after it). They
        are in the same order for all schedulers that choose the same.
        """
        if number not in self.told:
            self.told[number] = self._turns_found(number)
        return self.told[number]

    def _turns_found(self, number):
        """Return the same as turns, and number the states that are new."""
        state, left = self.states[number]
        found = []
        for comers, who, branches in next_turns(self.chooser, state, self.locks):
            numbered = []
            for deed, after in branches:
                left_then = left_after(left, state[1], who, deed, self.hold)
                if left_then is not None:
                    origin = (number, comers, who, deed)
                    numbered.append((deed, self._number_of((after, left_then), origin)))
            found.append((comers, who, numbered))
        return found

    def _number_of(self, state, origin):
        """Return the number of a state, a new one if it has none."""
        if state not in self.numbers:
            self.numbers[state] = len(self.states)
            self.states.append(state)
            self.origins.append(origin)
        return self.numbers[state]

    def explore(self):
        """Find all states, those that can be there earlier first, or raise NotFound for too many."""
        number = 0
        while number < len(self.states):
            self.turns(number)
            check_states(len(self.states))
            number += 1

    def history(self, number):
        """Return the history, as short as can be, that leads to a state."""
        return history_to(self.origins, number)
