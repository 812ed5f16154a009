"""Choosers with queues: first, last, rounds and levels.

A chooser is how a scheduler chooses. Its memory is a value of its own, which no
method changes:
- fresh() is the memory before unit 0;
- joined(memory, comers) is the one when these (ascending) have come in a unit;
- pick(memory, posts, holders) is who runs then, None for nobody;
- settled(memory, who, word, woken) is the memory at the end of the unit, when
  this came of it for the one that ran and these (ascending) are ready again.
"""

from processturns.posts import GONE


class QueueChooser:
    """One queue, of which one end runs: the place 0 is its first, -1 its last."""

    def __init__(self, place):
        self.place = place

    def fresh(self):
        """Return the empty queue."""
        return ()

    def joined(self, memory, comers):
        """Return the queue when these have come."""
        return memory + comers

    def pick(self, memory, posts, holders):
        """Return who runs, None for nobody."""
        return memory[self.place] if memory else None

    def settled(self, memory, who, word, woken):
        """Return the queue at the end of the unit."""
        if word in GONE:
            memory = tuple([slot for slot in memory if slot != who])
        return memory + woken


class RoundsChooser:
    """A queue, and how many units its first one has run; it runs a quantum of them.

    One that goes to the end late is known by having run its whole quantum.
    """

    def __init__(self, quantum, late):
        self.quantum = quantum
        self.late = late

    def fresh(self):
        """Return the empty queue and no units."""
        return (), 0

    def joined(self, memory, comers):
        """Return the memory when these have come, and one that is late has gone behind them."""
        queue, units = memory
        if units == self.quantum:
            return queue[1:] + comers + queue[:1], 0
        return queue + comers, units

    def pick(self, memory, posts, holders):
        """Return who runs, None for nobody."""
        queue = memory[0]
        return queue[0] if queue else None

    def settled(self, memory, who, word, woken):
        """Return the memory at the end of the unit."""
        queue, units = memory
        if who is None:
            return memory
        if word in GONE:
            return queue[1:] + woken, 0
        units += 1
        if units == self.quantum and not self.late:
            return queue[1:] + queue[:1] + woken, 0
        return queue + woken, units


class LevelsChooser:
    """Queues, how many units the first one of each has run there, and a clock.

    Only first ones have run units in their queue, since the others joined behind.
    The clock is of the units since all were raised; it stands if none ever are.
    """

    def __init__(self, quanta, raised):
        self.quanta = quanta
        self.raised = raised

    def fresh(self):
        """Return the empty queues, no units, and the clock."""
        return ((),) * len(self.quanta), (0,) * len(self.quanta), 0

    def joined(self, memory, comers):
        """Return the memory when these have come."""
        queues, units, clock = memory
        return (queues[0] + comers,) + queues[1:], units, clock

    def pick(self, memory, posts, holders):
        """Return who runs, None for nobody."""
        for queue in memory[0]:
            if queue:
                return queue[0]
        return None

    def settled(self, memory, who, word, woken):
        """Return the memory at the end of the unit."""
        queues, units, clock = memory
        if who is not None:
            queues, units = self._after_running(queues, units, word)
        queues = (queues[0] + woken,) + queues[1:]
        if not self.raised:
            return queues, units, clock
        if clock + 1 < self.raised:
            return queues, units, clock + 1
        return self._all_raised(queues)

    def _after_running(self, queues, units, word):
        """Return the queues and units when the first one has run a unit."""
        rows = list(queues)
        used = list(units)
        level = 0
        while not rows[level]:
            level += 1
        used[level] += 1
        if word in GONE:
            rows[level] = rows[level][1:]
            used[level] = 0
        elif used[level] == self.quanta[level]:
            runner = rows[level][:1]
            below = min(level + 1, len(rows) - 1)
            rows[level] = rows[level][1:]
            rows[below] = rows[below] + runner
            used[level] = 0
        return tuple(rows), tuple(used)

    def _all_raised(self, queues):
        """Return the memory when all have gone to the first queue."""
        row = ()
        for queue in queues:
            row = row + queue
        return (row,) + ((),) * (len(queues) - 1), (0,) * len(queues), 0
