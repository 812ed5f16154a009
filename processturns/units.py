"""Units of a hall under a chooser, whether its programs are known or not.

A state is a tuple (posts, holders, memory of the chooser), as it is before unit 0
and at the ends of units. Within a unit it is the one as it is chosen.
"""

from processturns.posts import AWAY, after_deed, with_comers


def first_state(chooser, size):
    """Return the state before unit 0."""
    return (AWAY,) * size, (None, None), chooser.fresh()


def begun(chooser, state, comers):
    """Return the state as it is chosen, when these (ascending) have come, and who runs."""
    posts, holders, memory = state
    posts = with_comers(posts, comers)
    memory = chooser.joined(memory, comers)
    return (posts, holders, memory), chooser.pick(memory, posts, holders)


def done(chooser, state, who, deed):
    """Return the state at the end of a unit, and what came of it.

    The deed is what the one that runs does next, ("end", 0) behind its last one;
    None stands for nobody and for the deed of nobody.
    """
    posts, holders, memory = state
    word = "none"
    woken = ()
    if who is not None:
        posts, holders, word, woken = after_deed(posts, holders, who, deed)
    return (posts, holders, chooser.settled(memory, who, word, woken)), word
