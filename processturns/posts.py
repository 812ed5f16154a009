"""Posts: who is away, is ready or waits for which lock; and who holds the locks."""

AWAY = 0
READY = 1
# At the place of each lock: who waits for it, and who is ready to ask for it again.
WAITS = (2, 3)
AGAIN = (4, 5)

WORDS = ("away", "ready", "waits", "waits", "ready", "ready")
# What can come of a unit after which the one that ran is not ready any more.
GONE = ("ask", "leave")


def is_ready(post):
    """Return True if the post is that of a process that is ready."""
    return WORDS[post] == "ready"


def ready_slots(posts):
    """Return the ascending list of the processes that are ready."""
    return [slot for slot, post in enumerate(posts) if is_ready(post)]


def with_item(row, place, item):
    """Return the tuple with another item at a place."""
    return row[:place] + (item,) + row[place + 1:]


def with_comers(posts, comers):
    """Return the posts when these processes have come."""
    for slot in comers:
        posts = with_item(posts, slot, READY)
    return posts


def after_deed(posts, holders, who, deed):
    """Return the posts and holders after a unit, what came of it, and who is ready again."""
    kind, number = deed
    if kind == "take":
        return _after_asking(posts, holders, who, number)
    if kind == "give":
        return _after_giving(posts, holders, number)
    if kind in ("sleep", "end"):
        return with_item(posts, who, AWAY), holders, "leave", ()
    return posts, holders, "work", ()


def _after_asking(posts, holders, who, lock):
    """Return the same as after_deed, for one that takes the lock or asks in vain."""
    if holders[lock] is None:
        return with_item(posts, who, READY), with_item(holders, lock, who), "take", ()
    return with_item(posts, who, WAITS[lock]), holders, "ask", ()


def _after_giving(posts, holders, lock):
    """Return the same as after_deed, for one that gives the lock."""
    woken = tuple([slot for slot, post in enumerate(posts) if post == WAITS[lock]])
    for slot in woken:
        posts = with_item(posts, slot, AGAIN[lock])
    return posts, with_item(holders, lock, None), "give", woken
