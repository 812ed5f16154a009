"""Two schedulers in all halls: whether they are one, and a hall that tells them apart."""

from processturns.checks import check_number
from processturns.errors import NotFound
from processturns.games import MOST_LOCKS, MOST_SIZE, check_halls, check_states
from processturns.graphs import Graph
from processturns.histories import hall_of, history_to
from processturns.schedulers import check_family


class Race:
    """Two graphs that go on by the same units as long as both schedulers choose alike."""

    def __init__(self, one, other):
        self.one = one
        self.other = other
        self.pairs = [(0, 0)]
        self.seen = {(0, 0): True}
        # From where each pair of states was found, as in histories.py.
        self.origins = [None]

    def telling(self):
        """Return a history, as short as can be, at whose end they choose otherwise, or None.

        In its last unit it tells only who come.
        """
        place = 0
        while place < len(self.pairs):
            comers = self._go_on(place)
            if comers is not None:
                return history_to(self.origins, place) + [(comers, None, None)]
            check_states(len(self.pairs))
            place += 1
        return None

    def _go_on(self, place):
        """Return who come so that they choose otherwise; else note what follows, and return None."""
        mine, theirs = self.pairs[place]
        for turn, rival in zip(self.one.turns(mine), self.other.turns(theirs)):
            comers, who, branches = turn
            if who != rival[1]:
                return comers
            for (deed, after), (_, beyond) in zip(branches, rival[2]):
                self._note((after, beyond), (place, comers, who, deed))
        return None

    def _note(self, pair, origin):
        """Keep a pair of states if it is new."""
        if pair not in self.seen:
            self.seen[pair] = True
            self.pairs.append(pair)
            self.origins.append(origin)


def _history_telling(one, other, size, locks):
    """Return the history that tells two schedulers apart, or None; or raise an error."""
    check_halls([one, other], size, locks)
    return Race(Graph(one, size, locks, 0), Graph(other, size, locks, 0)).telling()


def same(one, other, size, locks):
    """Return True if two schedulers are one, else False."""
    return _history_telling(one, other, size, locks) is None


def telling_hall(one, other, size, locks):
    """Return a tuple (hall, unit): they choose otherwise in this unit, and in no hall earlier."""
    history = _history_telling(one, other, size, locks)
    if history is None:
        raise NotFound("the two schedulers are one")
    return hall_of(history, size), len(history) - 1


def _family_graphs(family, size, locks):
    """Return the graphs of a family, or raise the error for the first thing that is not valid."""
    check_number(size, 1, MOST_SIZE)
    check_family(family, size)
    check_number(locks, 0, MOST_LOCKS)
    return [Graph(scheduler, size, locks, 0) for scheduler in family]


def classes(family, size, locks):
    """Return the places in a family by schedulers that are one."""
    graphs = _family_graphs(family, size, locks)
    found = []
    for place, graph in enumerate(graphs):
        alike = [places for places in found if Race(graphs[places[0]], graph).telling() is None]
        if alike:
            alike[0].append(place)
        else:
            found.append([place])
    return found


def telling_table(family, size, locks):
    """Return the rows of the least units in which two of a family can choose otherwise, or None."""
    graphs = _family_graphs(family, size, locks)
    rows = [[None] * len(graphs) for _ in graphs]
    for place, graph in enumerate(graphs):
        for other in range(place):
            history = Race(graphs[other], graph).telling()
            if history is not None:
                rows[place][other] = rows[other][place] = len(history) - 1
    return rows
