"""The machine: a hall with its programs, as it goes on unit by unit."""

from processturns.choosers import chooser_for
from processturns.posts import AWAY, WORDS, ready_slots
from processturns.units import begun, done, first_state


class Machine:
    """The processes of a size under a scheduler; none has a program at first."""

    def __init__(self, scheduler, size):
        self.chooser = chooser_for(scheduler)
        self.state = first_state(self.chooser, size)
        self.clock = 0
        self.programs = [[] for _ in range(size)]
        # Which deed each one does next, and how many units of it are done.
        self.reached = [0] * size
        self.worked = [0] * size
        # In which unit each one comes, and the unit behind that of its end.
        self.comings = [None] * size
        self.finishes = [None] * size

    def load(self, slot, program, comes):
        """Give a process that is away a program and a time of coming."""
        self.programs[slot] = list(program)
        self.reached[slot] = 0
        self.worked[slot] = 0
        self.comings[slot] = comes
        self.finishes[slot] = None

    def is_gone(self, slot):
        """Return True if a process is away for ever or had no program, else False."""
        return self.state[0][slot] == AWAY and self.comings[slot] is None

    def marks(self):
        """Return all that a unit or a new program changes, to go back to it later."""
        rows = (self.programs, self.reached, self.worked, self.comings, self.finishes)
        return self.state, self.clock, tuple([list(row) for row in rows])

    def go_back(self, marks):
        """Be as it was when these marks were returned."""
        self.state, self.clock, rows = marks
        copies = [list(row) for row in rows]
        self.programs, self.reached, self.worked, self.comings, self.finishes = copies

    def words(self):
        """Return the list of the words for the processes."""
        return [WORDS[post] for post in self.state[0]]

    def goes_on(self):
        """Return True if somebody is ready or comes yet, else False."""
        if ready_slots(self.state[0]):
            return True
        return any([comes is not None for comes in self.comings])

    def tick(self):
        """Run one unit; return the words as it was chosen, who ran, and what came of it."""
        comers = tuple([slot for slot, comes in enumerate(self.comings) if comes == self.clock])
        for slot in comers:
            self.comings[slot] = None
        self.state, who = begun(self.chooser, self.state, comers)
        words = self.words()
        deed = None if who is None else self._next_deed(who)
        self.state, word = done(self.chooser, self.state, who, deed)
        # One that asked in vain does the same deed again.
        if who is not None and word != "ask":
            self._advance(who, deed)
        self.clock += 1
        return words, who, word

    def _next_deed(self, slot):
        """Return the deed that a process does next, ("end", 0) behind the last one."""
        program = self.programs[slot]
        at = self.reached[slot]
        return program[at] if at < len(program) else ("end", 0)

    def _advance(self, slot, deed):
        """Note that a process did one unit of its next deed."""
        kind, number = deed
        if kind == "end":
            self.finishes[slot] = self.clock + 1
            return
        if kind == "work":
            self.worked[slot] += 1
            if self.worked[slot] < number:
                return
        if kind == "sleep":
            self.comings[slot] = self.clock + number
        self.reached[slot] += 1
        self.worked[slot] = 0


def machine_for(scheduler, hall):
    """Return the machine of a hall before unit 0."""
    machine = Machine(scheduler, len(hall))
    for slot, (comes, program) in enumerate(hall):
        machine.load(slot, program, comes)
    return machine
