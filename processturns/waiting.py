"""How long a process can wait, in all halls; and halls in which it waits so long."""

from processturns.checks import check_number
from processturns.errors import NotFound
from processturns.games import check_halls
from processturns.graphs import Graph
from processturns.histories import hall_of
from processturns.posts import WORDS

MOST_HOLD = 9
MOST_IN_A_ROW = 20

# What a process is as it is chosen, in the units that count.
WAITING = ("ready",)
HELD_BACK = ("ready", "waits")


def _check_hold(scheduler, size, locks, hold):
    """Raise the error for the first of what all halls with a hold need that is not valid."""
    check_halls([scheduler], size, locks)
    check_number(hold, 0, MOST_HOLD)


def _explored(scheduler, size, locks, hold):
    """Return the graph with all its states, those that can be there earlier first."""
    graph = Graph(scheduler, size, locks, hold)
    graph.explore()
    return graph


def _steps(graph, number, slot, words):
    """Return what a unit after a state can be in which a process has one of the words and another one runs.

    These are tuples (who come, who runs, deed, number of the state after it).
    """
    posts = graph.states[number][0][0]
    found = []
    for comers, who, branches in graph.turns(number):
        word = "ready" if slot in comers else WORDS[posts[slot]]
        if word in words and who is not None and who != slot:
            for deed, after in branches:
                found.append((comers, who, deed, after))
    return found


def _followers(graph, slot, words):
    """Return for each state the list of those that can follow by a unit that counts."""
    return [[step[3] for step in _steps(graph, number, slot, words)] for number in range(len(graph.states))]


def _leading(followers, numbers):
    """Return, as a dict of True, those of the numbers from which a unit that counts leads to one of them."""
    return {number: True for number in numbers if any([after in numbers for after in followers[number]])}


def _longest(graph, slot, words):
    """Return the greatest number of units that count one after the other, None if there is no greatest."""
    followers = _followers(graph, slot, words)
    # The states from which so many of these units can follow; with each unit more they are fewer.
    numbers = {number: True for number in range(len(followers))}
    longest = 0
    while True:
        fewer = _leading(followers, numbers)
        if not fewer:
            return longest
        if len(fewer) == len(numbers):
            return None
        numbers = fewer
        longest += 1


def longest_wait(scheduler, size, locks, hold, slot):
    """Return for how many units in a row a process can be ready and not run, None if there is no greatest."""
    _check_hold(scheduler, size, locks, hold)
    check_number(slot, 0, size - 1)
    return _longest(_explored(scheduler, size, locks, hold), slot, WAITING)


def longest_held_back(scheduler, size, locks, hold, slot):
    """Return the same for units in which it is ready or waits and another one runs."""
    _check_hold(scheduler, size, locks, hold)
    check_number(slot, 0, size - 1)
    return _longest(_explored(scheduler, size, locks, hold), slot, HELD_BACK)


def all_longest_waits(scheduler, size, locks, hold):
    """Return the list of the longest waits of all processes."""
    _check_hold(scheduler, size, locks, hold)
    graph = _explored(scheduler, size, locks, hold)
    return [_longest(graph, slot, WAITING) for slot in range(size)]


def is_fair(scheduler, size, locks):
    """Return True if the longest waits of all processes, with no hold, are numbers, else False."""
    return None not in all_longest_waits(scheduler, size, locks, 0)


def waiting_hall(scheduler, size, locks, hold, slot, units):
    """Return a hall in which a process is ready and does not run for so many units in a row."""
    _check_hold(scheduler, size, locks, hold)
    check_number(slot, 0, size - 1)
    check_number(units, 1, MOST_IN_A_ROW)
    return _hall_with(_explored(scheduler, size, locks, hold), slot, units, WAITING)


def held_back_hall(scheduler, size, locks, hold, slot, units):
    """Return the same for units in which it is ready or waits and another one runs."""
    _check_hold(scheduler, size, locks, hold)
    check_number(slot, 0, size - 1)
    check_number(units, 1, MOST_IN_A_ROW)
    return _hall_with(_explored(scheduler, size, locks, hold), slot, units, HELD_BACK)


def _hall_with(graph, slot, units, words):
    """Return a hall with so many units that count in a row, as early as can be, or raise NotFound."""
    followers = _followers(graph, slot, words)
    # At each place, the states from which as many of these units can follow.
    layers = [{number: True for number in range(len(followers))}]
    for _ in range(units):
        layers.append(_leading(followers, layers[-1]))
    if not layers[units]:
        raise NotFound("there is no such hall")
    number = min(layers[units])
    history = graph.history(number)
    for place in reversed(range(units)):
        steps = [step for step in _steps(graph, number, slot, words) if step[3] in layers[place]]
        comers, who, deed, number = steps[0]
        history.append((comers, who, deed))
    return hall_of(history, len(graph.states[0][0][0]))
