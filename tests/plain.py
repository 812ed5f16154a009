"""A second way to run a hall, written from the document as plainly as can be.

It shares nothing with the package: programs are written out unit by unit, times
are counted from unit 0, accounts are fractions, and who is where is a word.
"""

import copy
import itertools
from fractions import Fraction


def written_out(program):
    """The deeds of a program, one for each unit that it needs, with its end."""
    units = []
    for kind, number in program:
        units += [(kind, number)] * (number if kind == "work" else 1)
    return units + [("end", None)]


class PlainHall:
    """Processes and locks in words; the scheduler is told what happens."""

    def __init__(self, scheduler, size):
        self.size = size
        self.unit = 0
        self.word = ["away"] * size
        self.wants = [None] * size     # the lock that it asks for, in vain so far
        self.holder = {0: None, 1: None}
        self.scheduler = PLAIN_KINDS[scheduler[0]](self, *scheduler[1:])

    def ready(self):
        return [slot for slot in range(self.size) if self.word[slot] == "ready"]

    def come(self, slots):
        before = self.ready()
        for slot in sorted(slots):
            self.word[slot] = "ready"
        self.scheduler.come(sorted(slots), before)

    def choose(self):
        self.chosen_from = self.ready()
        return self.scheduler.choose(self.chosen_from) if self.chosen_from else None

    def do(self, who, deed):
        """Do the unit of the one that was chosen, up to the end of the unit."""
        event, again = "none", []
        if who is not None:
            event, again = self.change(who, deed)
            if self.word[who] != "ready":
                self.scheduler.leave(who, event)
        before = [slot for slot in self.ready() if slot not in again]
        self.scheduler.unit_over(who, again, before)
        self.unit += 1
        return event

    def change(self, who, deed):
        kind, number = deed
        if kind == "take":
            if self.holder[number] is None:
                self.holder[number] = who
                self.wants[who] = None
                return "take", []
            self.wants[who] = number
            self.word[who] = "waits"
            return "ask", []
        if kind == "give":
            self.holder[number] = None
            again = [slot for slot in range(self.size)
                     if self.word[slot] == "waits" and self.wants[slot] == number]
            for slot in again:
                self.word[slot] = "ready"
            return "give", again
        if kind == "work":
            return "work", []
        self.word[who] = "away"
        return "leave", []

    def key(self):
        """What a state is: words, locks asked for, holders, and the scheduler's memory."""
        return (tuple(self.word), tuple(self.wants), self.holder[0], self.holder[1],
                self.scheduler.key())


class PlainKind:
    def __init__(self, hall):
        self.hall = hall

    def come(self, slots, before):
        pass

    def leave(self, who, event):
        pass

    def unit_over(self, who, again, before):
        pass

    def key(self):
        return None


class PlainFirst(PlainKind):
    def __init__(self, hall):
        super().__init__(hall)
        self.queue = []

    def come(self, slots, before):
        self.queue += slots

    def choose(self, ready):
        return self.queue[0]

    def leave(self, who, event):
        self.queue.remove(who)

    def unit_over(self, who, again, before):
        self.queue += again

    def key(self):
        return tuple(self.queue)


class PlainLast(PlainFirst):
    def choose(self, ready):
        return self.queue[-1]


class PlainOrder(PlainKind):
    def __init__(self, hall, order, taking, rule):
        super().__init__(hall)
        self.order, self.taking, self.rule = order, taking, rule
        self.last_ready = None

    def place(self, slot, asked=()):
        """The place that counts; those asked already are not asked again in a ring."""
        best = self.order.index(slot)
        for lock in (0, 1):
            if self.hall.holder[lock] == slot:
                if self.rule[0] == "top":
                    best = min(best, self.rule[1][lock])
                if self.rule[0] == "lent":
                    for other in range(self.hall.size):
                        waits = self.hall.word[other] == "waits" and self.hall.wants[other] == lock
                        if waits and other not in asked:
                            best = min(best, self.place(other, asked + (slot,)))
        return best

    def choose(self, ready):
        if self.taking == 0 and self.last_ready is not None:
            return self.last_ready
        several = [slot for slot in ready
                   if self.place(slot) == min(self.place(other) for other in ready)]
        if self.last_ready in several:
            return self.last_ready
        for slot in self.order:
            if slot in several:
                return slot

    def unit_over(self, who, again, before):
        if who is not None:
            self.last_ready = who if self.hall.word[who] == "ready" else None

    def key(self):
        # Without top, two that are ready never have equal places, so that one that takes looks at places alone.
        return self.last_ready if self.taking == 0 or self.rule[0] == "top" else None


class PlainRounds(PlainFirst):
    def __init__(self, hall, quantum, late):
        super().__init__(hall)
        self.quantum, self.late = quantum, late
        self.ran = {}
        self.goes = None

    def come(self, slots, before):
        super().come(slots, before)
        for slot in slots:
            self.ran[slot] = 0
        if self.goes is not None:
            self.to_the_end(self.goes)

    def to_the_end(self, slot):
        self.queue.remove(slot)
        self.queue.append(slot)
        self.ran[slot] = 0
        self.goes = None

    def unit_over(self, who, again, before):
        if who in self.queue:
            self.ran[who] += 1
            if self.ran[who] == self.quantum:
                if self.late:
                    self.goes = who
                else:
                    self.to_the_end(who)
        for slot in again:
            self.ran[slot] = 0
        super().unit_over(who, again, before)

    def key(self):
        return tuple((slot, self.ran[slot]) for slot in self.queue), self.goes


class PlainLevels(PlainKind):
    def __init__(self, hall, quanta, raised):
        super().__init__(hall)
        self.quanta, self.raised = quanta, raised
        self.queues = [[] for _ in quanta]
        self.ran = {}

    def join_first(self, slots):
        for slot in slots:
            self.queues[0].append(slot)
            self.ran[slot] = 0

    def come(self, slots, before):
        self.join_first(slots)

    def choose(self, ready):
        return [slot for queue in self.queues for slot in queue][0]

    def leave(self, who, event):
        for queue in self.queues:
            if who in queue:
                queue.remove(who)

    def unit_over(self, who, again, before):
        for level, queue in enumerate(self.queues):
            if who in queue:
                self.ran[who] += 1
                if self.ran[who] == self.quanta[level]:
                    queue.remove(who)
                    self.queues[min(level + 1, len(self.queues) - 1)].append(who)
                    self.ran[who] = 0
                break
        self.join_first(again)
        if self.raised and (self.hall.unit + 1) % self.raised == 0:
            everybody = [slot for queue in self.queues for slot in queue]
            self.queues = [[] for _ in self.quanta]
            self.join_first(everybody)

    def key(self):
        rows = tuple(tuple((slot, self.ran[slot]) for slot in queue) for queue in self.queues)
        return rows, self.hall.unit % self.raised if self.raised else 0


class PlainAging(PlainKind):
    def __init__(self, hall, order, step):
        super().__init__(hall)
        self.order, self.step = order, step
        self.age = {}

    def come(self, slots, before):
        for slot in slots:
            self.age[slot] = 0

    def choose(self, ready):
        def rank(slot):
            place = self.order.index(slot)
            return place - self.age[slot] // self.step, place
        return sorted(ready, key=rank)[0]

    def unit_over(self, who, again, before):
        for slot in self.hall.chosen_from:
            self.age[slot] += 1
            if self.age[slot] > 2 * self.step * self.hall.size:
                self.age[slot] = 2 * self.step * self.hall.size
        for slot in again + [who]:
            self.age[slot] = 0

    def key(self):
        return tuple((slot, self.age[slot]) for slot in self.hall.ready())


class PlainDue(PlainKind):
    def __init__(self, hall, limits):
        super().__init__(hall)
        self.limits = limits
        self.due = {}

    def come(self, slots, before):
        for slot in slots:
            self.due[slot] = self.hall.unit + self.limits[slot]

    def choose(self, ready):
        return sorted(ready, key=lambda slot: (self.due[slot], slot))[0]

    def leave(self, who, event):
        if event == "leave":
            del self.due[who]

    def key(self):
        left = {slot: due - self.hall.unit for slot, due in self.due.items()}
        past = sorted([(due, slot) for slot, due in self.due.items() if due < self.hall.unit])
        return (tuple((slot, max(left[slot], -1)) for slot in sorted(left)),
                tuple(slot for _, slot in past))


class PlainShares(PlainKind):
    def __init__(self, hall, weights):
        super().__init__(hall)
        self.weights = weights
        self.account = {}

    def open_account(self, slot, before):
        self.account[slot] = min([self.account[other] for other in before], default=Fraction(0))

    def come(self, slots, before):
        for slot in slots:
            self.open_account(slot, before)

    def choose(self, ready):
        return sorted(ready, key=lambda slot: (self.account[slot], slot))[0]

    def unit_over(self, who, again, before):
        if who is not None:
            self.account[who] += Fraction(1, self.weights[who])
        for slot in again:
            self.open_account(slot, before)

    def key(self):
        ready = self.hall.ready()
        least = min([self.account[slot] for slot in ready], default=0)
        return tuple((slot, str(self.account[slot] - least)) for slot in ready)


PLAIN_KINDS = {
    "first": PlainFirst, "last": PlainLast, "order": PlainOrder, "rounds": PlainRounds,
    "levels": PlainLevels, "aging": PlainAging, "due": PlainDue, "shares": PlainShares,
}


def plain_rows(scheduler, hall, most):
    """Rows (words as it was chosen, who ran, what came of it), and how it ends."""
    plain = PlainHall(scheduler, len(hall))
    deeds = [written_out(program) for _, program in hall]
    comes = [time for time, _ in hall]
    rows = []
    while True:
        goes_on = plain.ready() or any(time >= plain.unit for time in comes)
        if len(rows) == most or not goes_on:
            break
        plain.come([slot for slot in range(len(hall)) if comes[slot] == plain.unit])
        who = plain.choose()
        words = list(plain.word)
        deed = None if who is None else deeds[who][0]
        event = plain.do(who, deed)
        if who is not None and event != "ask":
            deeds[who].pop(0)
            if deed[0] == "sleep":
                comes[who] = plain.unit - 1 + deed[1]
        rows.append((words, who, event))
    if goes_on:
        return rows, "open"
    return rows, "stuck" if "waits" in plain.word else "ended"


def plain_deeds(plain, who, locks):
    """All that the one that runs can do next, in some hall."""
    if who is None:
        return [None]
    if plain.wants[who] is not None:
        return [("take", plain.wants[who])]
    held = [lock for lock in (0, 1) if plain.holder[lock] == who]
    deeds = [("work", 1)] + [("give", lock) for lock in held]
    deeds += [("take", lock) for lock in range(locks) if lock not in held]
    return deeds if held else deeds + [("end", None)]


def plain_states(scheduler, size, locks):
    """The dict of the states that all halls lead to, each by its key."""
    start = PlainHall(scheduler, size)
    found = {start.key(): start}
    left = [start]
    while left:
        plain = left.pop()
        away = [slot for slot in range(size) if plain.word[slot] == "away"]
        for many in range(len(away) + 1):
            for slots in itertools.combinations(away, many):
                begun = copy.deepcopy(plain)
                begun.come(slots)
                who = begun.choose()
                for deed in plain_deeds(begun, who, locks):
                    done = copy.deepcopy(begun)
                    done.do(who, deed)
                    if done.key() not in found:
                        found[done.key()] = done
                        left.append(done)
    return found
