"""A second way to look at all halls, and at all orders of takings and givings, as plainly as can be.

Units are done by plain.py. Where there is a hold, it is kept how many units of its own
program each process has done since it took a lock.
"""

import copy
import itertools

from plain import PlainHall, plain_deeds


def keeps(since, held, hold):
    """Whether the locks that are held can still be given in time, the one that was taken first ahead."""
    counts = sorted([since[lock] for lock in held], reverse=True)
    return not hold or all(count + place + 1 <= hold for place, count in enumerate(counts))


def hold_after(plain, who, deed, since, hold):
    """How long each lock is held after a deed, before it is done; None if no program with the hold does it."""
    if who is None:
        return since
    kind, lock = deed
    held = [one for one in (0, 1) if plain.holder[one] == who]
    then = {one: since[one] + (1 if one in held else 0) for one in (0, 1)}
    if kind == "give":
        held.remove(lock)
        then[lock] = 0
        return then if keeps(then, held, hold) else None
    if kind == "take":
        if not keeps({**then, lock: 0}, held + [lock], hold):
            return None
        return since if plain.holder[lock] is not None else {**then, lock: 0}
    return then if keeps(then, held, hold) else None


def subsets(rows):
    return [part for many in range(len(rows) + 1) for part in itertools.combinations(rows, many)]


def plain_units(plain, since, locks, hold):
    """All that a unit can be: (who come, words as it was chosen, who runs, deed, hall after it, since)."""
    found = []
    for comers in subsets([slot for slot in range(plain.size) if plain.word[slot] == "away"]):
        begun = copy.deepcopy(plain)
        begun.come(comers)
        who = begun.choose()
        for deed in plain_deeds(begun, who, locks):
            then = hold_after(begun, who, deed, since, hold)
            if then is not None:
                done = copy.deepcopy(begun)
                done.do(who, deed)
                found.append((comers, list(begun.word), who, deed, done, then))
    return found


def plain_graph(scheduler, size, locks, hold):
    """For each state, by its key, the list of (words as it was chosen, who runs, key of the state after it)."""
    # Without a hold it does not count for how long a lock is held.
    def key_of(plain, since):
        return plain.key(), tuple(since.values()) if hold else None

    start = PlainHall(scheduler, size), {0: 0, 1: 0}
    graph, left = {}, [start]
    while left:
        plain, since = left.pop()
        key = key_of(plain, since)
        if key in graph:
            continue
        graph[key] = []
        for _, words, who, _, done, then in plain_units(plain, since, locks, hold):
            graph[key].append((words, who, key_of(done, then)))
            left.append((done, then))
    return graph


def plain_longest(graph, slot, words):
    """The most units in a row in which a process has one of the words and another one runs; None without end."""
    follow = {
        key: [after for told, who, after in rows if told[slot] in words and who not in (None, slot)]
        for key, rows in graph.items()
    }
    lengths = {}
    for first in graph:
        # Those under way are on the stack; one that is met there again is a ring without end.
        stack = [(first, iter(follow[first]))]
        under_way = {first}
        while stack and first not in lengths:
            key, rest = stack[-1]
            after = next((one for one in rest if one not in lengths), None)
            if after in under_way:
                return None
            if after is None:
                lengths[key] = max([1 + lengths[one] for one in follow[key]], default=0)
                under_way.remove(key)
                stack.pop()
            else:
                under_way.add(after)
                stack.append((after, iter(follow[after])))
    return max(lengths.values())


def plain_telling(one, other, size, locks):
    """The least unit in which two schedulers can choose otherwise, None if they are one."""
    level = {"start": (PlainHall(one, size), PlainHall(other, size))}
    seen, unit = set(), 0
    while level:
        further = {}
        for mine, theirs in level.values():
            units = plain_units(mine, {0: 0, 1: 0}, locks, 0)
            for comers, _, who, deed, done, _ in units:
                rival = copy.deepcopy(theirs)
                rival.come(comers)
                if rival.choose() != who:
                    return unit
                rival.do(who, deed)
                key = done.key(), rival.key()
                if key not in seen:
                    seen.add(key)
                    further[key] = done, rival
        level, unit = further, unit + 1
    return None


def rows_of_locks(hall):
    return [[deed for deed in program if deed[0] in ("take", "give")] for _, program in hall]


def all_orders(hall):
    """All orders of takings and givings as far as they can go: (who does them, places, whether all are done)."""
    rows = rows_of_locks(hall)
    found = []

    def go_on(way, places, holders):
        moved = False
        for slot, row in enumerate(rows):
            if places[slot] < len(row):
                kind, lock = row[places[slot]]
                if kind == "take" and lock in holders:
                    continue
                moved = True
                then = {**holders, lock: slot}
                if kind == "give":
                    del then[lock]
                go_on(way + [slot], places[:slot] + (places[slot] + 1,) + places[slot + 1:], then)
        if not moved:
            found.append((way, places, places == tuple(map(len, rows))))

    go_on([], (0,) * len(rows), {})
    return found
