"""Choosers without queues: order, aging, due and shares.

What a chooser does is told in queueing.py.
"""

from processturns.posts import GONE, WAITS, is_ready, ready_slots, with_item

# All weights from 1 to 4 divide it, so that accounts are integers.
WHOLE = 12


def places_of(order):
    """Return the list of the places that the processes have in the order."""
    return [order.index(slot) for slot in range(len(order))]


class OrderChooser:
    """The best place that counts runs.

    The memory is the one that ran last if it was ready after it, else None; always
    None if that one never counts for what is chosen later.
    """

    def __init__(self, order, taking, rule):
        self.places = places_of(order)
        self.taking = taking
        self.rule = rule
        # With taking it counts among equal places alone. Plain places differ. So do lent
        # ones of those ready: each that waits lends to one that is ready at most.
        self.remembers = not taking or rule[0] == "top"

    def fresh(self):
        """Return that nobody ran."""
        return None

    def joined(self, memory, comers):
        """Return the memory when these have come."""
        return memory

    def pick(self, memory, posts, holders):
        """Return who runs, None for nobody."""
        # It can only have ceased to be ready by running, so it is ready still.
        if memory is not None and not self.taking:
            return memory
        ready = ready_slots(posts)
        if not ready:
            return None
        counting = self.places_that_count(posts, holders)
        best = min([counting[slot] for slot in ready])
        if memory is not None and counting[memory] == best:
            return memory
        own = self.places
        return min([slot for slot in ready if counting[slot] == best], key=lambda slot: own[slot])

    def settled(self, memory, who, word, woken):
        """Return the memory at the end of the unit."""
        return who if self.remembers and word not in GONE else None

    def places_that_count(self, posts, holders):
        """Return the list of the places that count for the processes by the rule."""
        places = list(self.places)
        if self.rule[0] == "lent":
            # A chain has no more links than there are locks.
            for _ in holders:
                self._lend(places, posts, holders)
        if self.rule[0] == "top":
            for lock, holder in enumerate(holders):
                if holder is not None:
                    places[holder] = min(places[holder], self.rule[1][lock])
        return places

    def _lend(self, places, posts, holders):
        """Lend the holders the better ones of the places of those who wait for them."""
        for lock, holder in enumerate(holders):
            for slot, post in enumerate(posts):
                if post == WAITS[lock]:
                    places[holder] = min(places[holder], places[slot])


class AgingChooser:
    """The least of the places less the ages, by steps, runs.

    The memory is the tuple of the ages, None for those who are not ready.
    """

    def __init__(self, order, step):
        self.places = places_of(order)
        self.step = step
        self.oldest = 2 * step * len(order)

    def fresh(self):
        """Return that nobody has an age."""
        return (None,) * len(self.places)

    def joined(self, memory, comers):
        """Return the ages when these have come."""
        for slot in comers:
            memory = with_item(memory, slot, 0)
        return memory

    def pick(self, memory, posts, holders):
        """Return who runs, None for nobody."""
        ranks = []
        for slot, age in enumerate(memory):
            if age is not None:
                place = self.places[slot]
                ranks.append((place - age // self.step, place, slot))
        return min(ranks)[2] if ranks else None

    def settled(self, memory, who, word, woken):
        """Return the ages at the end of the unit."""
        ages = []
        for slot, age in enumerate(memory):
            if slot == who:
                ages.append(None if word in GONE else 0)
            elif slot in woken:
                ages.append(0)
            else:
                ages.append(None if age is None else min(age + 1, self.oldest))
        return tuple(ages)


class DueChooser:
    """The one that is due first runs.

    The memory is a tuple of the units up to being due, -1 for those past and None
    for those away; and a tuple of those past in the order in which they are due.
    """

    def __init__(self, limits):
        self.limits = limits

    def fresh(self):
        """Return that nobody is due."""
        return (None,) * len(self.limits), ()

    def joined(self, memory, comers):
        """Return the memory when these have come."""
        units, past = memory
        for slot in comers:
            units = with_item(units, slot, self.limits[slot])
        return units, past

    def pick(self, memory, posts, holders):
        """Return who runs, None for nobody."""
        units, past = memory
        for slot in past:
            if is_ready(posts[slot]):
                return slot
        ready = ready_slots(posts)
        return min(ready, key=lambda slot: (units[slot], slot)) if ready else None

    def settled(self, memory, who, word, woken):
        """Return the memory at the end of the unit."""
        units, past = memory
        if word == "leave":
            units = with_item(units, who, None)
            past = tuple([slot for slot in past if slot != who])
        # Those that are past from now on were due at the same time, so the least number is ahead.
        now_past = tuple([slot for slot, left in enumerate(units) if left == 0])
        less = [left if left is None else max(left - 1, -1) for left in units]
        return tuple(less), past + now_past


class SharesChooser:
    """The least account runs.

    The memory is the tuple of the accounts less the least one, in parts of a
    whole, None for those who are not ready.
    """

    def __init__(self, weights):
        self.growths = [WHOLE // weight for weight in weights]

    def fresh(self):
        """Return that nobody has an account."""
        return (None,) * len(self.growths)

    def joined(self, memory, comers):
        """Return the accounts when these have come."""
        # The least one is 0 here, since it was taken off all.
        for slot in comers:
            memory = with_item(memory, slot, 0)
        return memory

    def pick(self, memory, posts, holders):
        """Return who runs, None for nobody."""
        accounts = [(account, slot) for slot, account in enumerate(memory) if account is not None]
        return min(accounts)[1] if accounts else None

    def settled(self, memory, who, word, woken):
        """Return the accounts at the end of the unit."""
        if who is None:
            return memory
        grown = None if word in GONE else memory[who] + self.growths[who]
        memory = with_item(memory, who, grown)
        least = min([account for account in memory if account is not None], default=0)
        for slot in woken:
            memory = with_item(memory, slot, least)
        return tuple([account if account is None else account - least for account in memory])
