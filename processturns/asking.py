"""Which hall to ask next, to find a hidden scheduler of a family by its runs."""

from itertools import combinations

from processturns.errors import BadRecord, NotFound
from processturns.halls import is_hall
from processturns.reading import places_by
from processturns.running import check_units, run_of
from processturns.schedulers import check_family

MOST_HALLS = 8
MOST_TO_PLAN = 12


def _check_asked(family, halls, most):
    """Raise the error for the first of the halls, the family and the units that is not valid."""
    if not isinstance(halls, list) or not 1 <= len(halls) <= MOST_HALLS:
        raise BadRecord("these are not 1 to 8 halls")
    if not all([is_hall(hall) for hall in halls]):
        raise BadRecord("one of these is no hall")
    if any([len(hall) != len(halls[0]) for hall in halls]):
        raise BadRecord("the halls are not of one size")
    check_family(family, len(halls[0]))
    check_units(most)


def _columns(family, halls, most):
    """Return for each hall the list of the runs of the family; or raise an error."""
    _check_asked(family, halls, most)
    return [[tuple(run_of(scheduler, hall, most)) for scheduler in family] for hall in halls]


def _parts(columns):
    """Return the places in the family by equal runs in all of these columns."""
    return places_by(list(zip(*columns)))


def best_hall(family, halls, most):
    """Return the place of the first hall whose greatest group is least."""
    columns = _columns(family, halls, most)
    greatest = [max([len(group) for group in places_by(column)]) for column in columns]
    return greatest.index(min(greatest))


def told_apart(family, halls, most):
    """Return the places in the family by schedulers that no hall tells apart."""
    return _parts(_columns(family, halls, most))


def halls_needed(family, halls, most):
    """Return the least of the shortest lists of halls that tell apart all that all halls do."""
    columns = _columns(family, halls, most)
    whole = len(_parts(columns))
    # Without a hall, nobody is told apart from anybody.
    if whole == 1:
        return []
    for many in range(1, len(columns)):
        for chosen in combinations(range(len(columns)), many):
            if len(_parts([columns[place] for place in chosen])) == whole:
                return list(chosen)
    return list(range(len(columns)))


class Planner:
    """Least plans for places in a family, by what the halls tell."""

    def __init__(self, columns):
        self.columns = columns
        self.depths = {}

    def groups_by(self, column, places):
        """Return the groups of these places by one hall, in the order of their first places."""
        return [[places[at] for at in group] for group in places_by([column[place] for place in places])]

    def depth(self, places):
        """Return the least number of halls to ask in the worst case."""
        key = tuple(places)
        if key not in self.depths:
            costs = [self._cost(column, places) for column in self.columns]
            self.depths[key] = min([cost for cost in costs if cost is not None], default=0)
        return self.depths[key]

    def _cost(self, column, places):
        """Return how many halls are asked in the worst case if this is the first, None if it tells nothing."""
        parts = self.groups_by(column, places)
        if len(parts) == 1:
            return None
        return 1 + max([self.depth(part) for part in parts])

    def plan(self, places):
        """Return a least plan, with the first hall that is in one."""
        if self.depth(places) == 0:
            return ("left", places)
        costs = [self._cost(column, places) for column in self.columns]
        first = costs.index(self.depth(places))
        return ("ask", first, [self.plan(part) for part in self.groups_by(self.columns[first], places)])


def _planner(family, halls, most):
    """Return the planner for a family that is not too large; or raise an error."""
    columns = _columns(family, halls, most)
    if len(family) > MOST_TO_PLAN:
        raise NotFound("the family is too large for a plan")
    return Planner(columns)


def plan_depth(family, halls, most):
    """Return the least number of halls to ask in the worst case, each chosen by the runs before."""
    return _planner(family, halls, most).depth(list(range(len(family))))


def plan(family, halls, most):
    """Return a least plan: ("left", places) or ("ask", place of a hall, plans for its groups)."""
    return _planner(family, halls, most).plan(list(range(len(family))))
