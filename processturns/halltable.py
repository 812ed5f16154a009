"""A table: a hall that goes on by commands, and back."""

from processturns.checks import check_number
from processturns.errors import BadNumber, NotFound
from processturns.halls import MOST_PROCESSES
from processturns.machine import Machine
from processturns.programs import check_program
from processturns.running import MOST_UNITS
from processturns.schedulers import check_scheduler


class Table:
    """A hall without programs, before unit 0, to which programs are given as it goes on."""

    def __init__(self, scheduler, size):
        check_number(size, 1, MOST_PROCESSES)
        check_scheduler(scheduler, size)
        self._size = size
        self._machine = Machine(scheduler, size)
        self._ran = []
        # For each begin and tick, how many units had run before it, and the marks of the machine.
        self._before = []

    def begin(self, slot, program):
        """Give a program to a process that is away for ever or had none; return the number of the process."""
        check_number(slot, 0, self._size - 1)
        check_program(program)
        if not self._machine.is_gone(slot):
            raise BadNumber("the process is not away for ever")
        self._keep()
        self._machine.load(slot, program, len(self._ran))
        return slot

    def tick(self):
        """Run one unit; return who ran, or None."""
        if len(self._ran) >= MOST_UNITS:
            raise BadNumber("200 units have run")
        self._keep()
        who = self._machine.tick()[1]
        self._ran.append(who)
        return who

    def _keep(self):
        """Keep what the next undo goes back to."""
        self._before.append((len(self._ran), self._machine.marks()))

    def journal(self):
        """Return the list of who ran so far."""
        return list(self._ran)

    def words(self):
        """Return the list of the words for the processes at the end of the last unit."""
        return self._machine.words()

    def holders(self):
        """Return the list of who holds each lock, None for nobody."""
        return list(self._machine.state[1])

    def undo(self):
        """Take back the last begin or tick; return how many units have run then."""
        if not self._before:
            raise NotFound("there is nothing to take back")
        many, marks = self._before.pop()
        self._machine.go_back(marks)
        self._ran = self._ran[:many]
        return many

    def __len__(self):
        """Return the number of units that have run."""
        return len(self._ran)
