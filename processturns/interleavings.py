"""Interleavings: the takings and givings of programs, in any order in which they can be done.

A row is a tuple of the takings and givings of one program. Places are a tuple of how
many of them each process has done.
"""

from processturns.posts import with_item


def lock_row(program):
    """Return the row of a program."""
    return tuple([deed for deed in program if deed[0] in ("take", "give")])


def lock_rows(hall):
    """Return the list of the rows of a hall's programs."""
    return [lock_row(program) for _, program in hall]


def held_along(row):
    """Return the list of the tuples of locks held at each place of a row, that behind its last one too."""
    held = ()
    found = [held]
    for kind, lock in row:
        if kind == "take":
            held = held + (lock,)
        else:
            held = tuple([other for other in held if other != lock])
        found.append(held)
    return found


class Interleaving:
    """What can be done, one after the other, where some rows go on together."""

    def __init__(self, rows):
        self.rows = rows
        self.held = [held_along(row) for row in rows]

    def steps(self, places):
        """Return the list of what can be done next: tuples (who does it, places after it)."""
        locked = [lock for slot, place in enumerate(places) for lock in self.held[slot][place]]
        found = []
        for slot, place in enumerate(places):
            if place < len(self.rows[slot]):
                kind, lock = self.rows[slot][place]
                if kind == "give" or lock not in locked:
                    found.append((slot, with_item(places, slot, place + 1)))
        return found

    def is_done(self, places):
        """Return True if no takings and givings are left."""
        return all([place == len(row) for place, row in zip(places, self.rows)])

    def deadlocks(self):
        """Return the list of the deadlocks, those after fewer steps first, each as a tuple (places, way to it)."""
        start = (0,) * len(self.rows)
        unseen = [start]
        # From where each was found: (who did the last step, places before it).
        origins = {start: None}
        found = []
        while unseen:
            further = []
            for places in unseen:
                steps = self.steps(places)
                if not steps and not self.is_done(places):
                    found.append((places, _way(origins, places)))
                for slot, after in steps:
                    if after not in origins:
                        origins[after] = (slot, places)
                        further.append(after)
            unseen = further
        return found


def _way(origins, places):
    """Return the list of who did the steps that lead to places."""
    way = []
    while origins[places] is not None:
        slot, places = origins[places]
        way.append(slot)
    return way[::-1]
