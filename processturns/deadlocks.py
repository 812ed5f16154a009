"""Deadlocks: of a scheduler in all halls, and of a hall in all interleavings."""

from itertools import combinations

from processturns.errors import NotFound
from processturns.games import check_halls, check_states
from processturns.graphs import Graph
from processturns.halls import check_hall
from processturns.histories import hall_of
from processturns.interleavings import Interleaving, held_along, lock_rows
from processturns.posts import WAITS
from processturns.programs import nested_pairs


def _has_ring(posts, holders):
    """Return True if those who hold the two locks wait for each other."""
    if None in holders:
        return False
    return posts[holders[0]] == WAITS[1] and posts[holders[1]] == WAITS[0]


def _history_to_ring(scheduler, size, locks):
    """Return a history, as short as can be, at whose end there is a ring, or None; or raise an error."""
    check_halls([scheduler], size, locks)
    graph = Graph(scheduler, size, locks, 0)
    number = 0
    while number < len(graph.states):
        posts, holders, _ = graph.states[number][0]
        if _has_ring(posts, holders):
            return graph.history(number)
        graph.turns(number)
        check_states(len(graph.states))
        number += 1
    return None


def can_stick(scheduler, size, locks):
    """Return True if there is a ring in some hall, else False."""
    return _history_to_ring(scheduler, size, locks) is not None


def sticking_hall(scheduler, size, locks):
    """Return a tuple (hall, unit): there is a ring at the end of this unit, in no hall earlier."""
    history = _history_to_ring(scheduler, size, locks)
    if history is None:
        raise NotFound("there is no ring in any hall")
    return hall_of(history, size), len(history) - 1


def _pair_deadlocks(rows):
    """Return the list of the deadlocks of two processes alone: tuples (pair of processes, places, way).

    With two locks, a deadlock is a ring of two processes. All others hold no lock in
    it, so they can have come to where they are before, each alone.
    """
    found = []
    for pair in combinations(range(len(rows)), 2):
        for places, way in Interleaving([rows[slot] for slot in pair]).deadlocks():
            found.append((pair, places, [pair[slot] for slot in way]))
    return found


def stuck_places(hall):
    """Return the ascending list of the deadlocks, each as the numbers of takings and givings done."""
    check_hall(hall)
    rows = lock_rows(hall)
    free = [[place for place, held in enumerate(held_along(row)) if not held] for row in rows]
    found = []
    for pair, places, _ in _pair_deadlocks(rows):
        choices = list(free)
        for slot, place in zip(pair, places):
            choices[slot] = [place]
        found.extend(_all_of(choices))
    return sorted(found)


def _all_of(choices):
    """Return the list of all tuples that have one of the choices at each place."""
    found = [()]
    for row in choices:
        found = [items + (item,) for items in found for item in row]
    return found


def can_deadlock(hall):
    """Return True if there is a deadlock in some interleaving of the hall, else False."""
    check_hall(hall)
    return len(_pair_deadlocks(lock_rows(hall))) > 0


def way_to_deadlock(hall):
    """Return the list of who does the takings and givings up to a deadlock, as few as can be."""
    check_hall(hall)
    ways = [way for _, _, way in _pair_deadlocks(lock_rows(hall))]
    if not ways:
        raise NotFound("the hall has no deadlock")
    return min(ways, key=len)


def count_ways(hall):
    """Return a tuple of how many orders of all takings and givings end, and how many lead to a deadlock."""
    check_hall(hall)
    together = Interleaving(lock_rows(hall))
    ended = 0
    stuck = 0
    # How many orders lead to each of the places after so many steps.
    ways = {(0,) * len(hall): 1}
    while ways:
        further = {}
        for places, many in ways.items():
            steps = together.steps(places)
            for _, after in steps:
                further[after] = further.get(after, 0) + many
            if together.is_done(places):
                ended += many
            elif not steps:
                stuck += many
        ways = further
    return ended, stuck


def is_ordered(hall):
    """Return True if not both locks are taken while the other is held, once 0 first and once 1 first."""
    check_hall(hall)
    pairs = [pair for _, program in hall for pair in nested_pairs(program)]
    return (0, 1) not in pairs or (1, 0) not in pairs
