"""All halls of a size and some locks at once: the states that they lead to."""

from processturns.checks import check_number
from processturns.choosers import chooser_for
from processturns.errors import NotFound
from processturns.posts import AGAIN, AWAY
from processturns.schedulers import check_scheduler
from processturns.units import begun, done, first_state

MOST_SIZE = 3
MOST_LOCKS = 2
MOST_STATES = 40000


def count_states(scheduler, size, locks):
    """Return how many states all halls of a size and so many locks lead to."""
    check_halls([scheduler], size, locks)
    return len(all_states(chooser_for(scheduler), size, locks))


def check_halls(schedulers, size, locks):
    """Raise the error for the first of the size, the schedulers and the locks that is not valid."""
    check_number(size, 1, MOST_SIZE)
    for scheduler in schedulers:
        check_scheduler(scheduler, size)
    check_number(locks, 0, MOST_LOCKS)


def check_states(many):
    """Raise NotFound if these are too many states."""
    if many > MOST_STATES:
        raise NotFound("there are more than 40000 states")


def all_states(chooser, size, locks):
    """Return the list of all states that halls lead to, or raise NotFound for too many."""
    start = first_state(chooser, size)
    seen = {start: True}
    unseen = [start]
    while unseen:
        state = unseen.pop()
        for _, _, branches in next_turns(chooser, state, locks):
            for _, after in branches:
                if after not in seen:
                    seen[after] = True
                    unseen.append(after)
        check_states(len(seen))
    return list(seen)


def next_turns(chooser, state, locks):
    """Return the list of what a unit after a state can be, in all halls.

    Each is a tuple (who come, who runs, branches), the branches a list of tuples
    (deed, state after it); the deed of nobody is None.
    """
    turns = []
    for comers in comings(state[0]):
        chosen, who = begun(chooser, state, comers)
        deeds = deeds_next(chosen, who, locks)
        turns.append((comers, who, [(deed, done(chooser, chosen, who, deed)[0]) for deed in deeds]))
    return turns


def comings(posts):
    """Return the list of all ascending tuples of who can come in a unit."""
    found = [()]
    for slot, post in enumerate(posts):
        if post == AWAY:
            found = found + [comers + (slot,) for comers in found]
    return found


def deeds_next(state, who, locks):
    """Return the list of the deeds that the one that runs can have next in its program.

    To sleep stands for to end, too: the process is away, and can come again.
    """
    if who is None:
        return [None]
    posts, holders, _ = state
    if posts[who] in AGAIN:
        return [("take", AGAIN.index(posts[who]))]
    deeds = [("work", 1)]
    for lock in range(locks):
        deeds.append(("give" if holders[lock] == who else "take", lock))
    if who not in holders:
        deeds.append(("sleep", 1))
    return deeds
