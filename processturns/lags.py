"""Lags: all processes come in unit 0 and work for ever, and how the units are shared then."""

from math import gcd

from processturns.checks import check_number
from processturns.choosers import chooser_for
from processturns.errors import BadScheduler
from processturns.halls import MOST_PROCESSES
from processturns.schedulers import check_scheduler
from processturns.units import begun, done, first_state

MOST_WEIGHT = 9


def _check_steady(scheduler, size):
    """Raise the error for the first of the size and the scheduler that is not valid."""
    check_number(size, 1, MOST_PROCESSES)
    check_scheduler(scheduler, size)


def _ran_until_again(scheduler, size):
    """Return who runs until a state is there again, and after how many units it was there first."""
    chooser = chooser_for(scheduler)
    state = first_state(chooser, size)
    comers = tuple(range(size))
    seen = {}
    ran = []
    while state not in seen:
        seen[state] = len(ran)
        chosen, who = begun(chooser, state, comers)
        state = done(chooser, chosen, who, ("work", 1))[0]
        ran.append(who)
        comers = ()
    return ran, seen[state]


def _shortest(row):
    """Return the shortest list that, repeated, gives the row."""
    for many in range(1, len(row)):
        if len(row) % many == 0 and row[:many] * (len(row) // many) == row:
            return row[:many]
    return row


def _round_of(scheduler, size):
    """Return who runs before a round begins, and in the round, both as short as can be."""
    ran, start = _ran_until_again(scheduler, size)
    before = ran[:start]
    turn = _shortest(ran[start:])
    # A round can begin earlier where the unit before it is as its last one.
    while before and before[-1] == turn[-1]:
        before = before[:-1]
        turn = turn[-1:] + turn[:-1]
    return before, turn


def _fraction(number, whole):
    """Return the fraction in lowest terms."""
    common = gcd(number, whole)
    return number // common, whole // common


def steady_round(scheduler, size):
    """Return a tuple of two lists: who runs before a round begins, and in the round."""
    _check_steady(scheduler, size)
    return _round_of(scheduler, size)


def steady_shares(scheduler, size):
    """Return the list of each process's share of the units of the round."""
    _check_steady(scheduler, size)
    turn = _round_of(scheduler, size)[1]
    return [_fraction(turn.count(slot), len(turn)) for slot in range(size)]


def _check_weights(value, size):
    """Raise BadScheduler for another tuple than one of so many, BadNumber for its numbers."""
    if not isinstance(value, tuple) or len(value) != size:
        raise BadScheduler("the weights are a tuple of a number for each process")
    for weight in value:
        check_number(weight, 1, MOST_WEIGHT)


def lead_and_lag(scheduler, size, weights, slot):
    """Return by how much, at most, a process has run more, and less, than its weight's share; or None."""
    _check_steady(scheduler, size)
    _check_weights(weights, size)
    check_number(slot, 0, size - 1)
    before, turn = _round_of(scheduler, size)
    whole = sum(weights)
    if turn.count(slot) * whole != weights[slot] * len(turn):
        return None
    # In parts of the whole, by how much it has run more than its share.
    ahead = 0
    lead = 0
    lag = 0
    for who in before + turn:
        ahead += (whole if who == slot else 0) - weights[slot]
        lead = max(lead, ahead)
        lag = max(lag, -ahead)
    return _fraction(lead, whole), _fraction(lag, whole)
