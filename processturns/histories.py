"""Halls from histories: what came and was done, unit by unit, and a hall in which just this is so.

A history is a list of tuples (who come, who runs, deed), one for each unit from 0.
The deed ("sleep", 1) stands for leaving, whether the process comes again or not.
"""

from processturns.programs import plainest


class Writer:
    """Times of coming and programs, as they are written down unit by unit."""

    def __init__(self, size):
        self.programs = [[] for _ in range(size)]
        self.times = [None] * size
        # In which unit each process left last.
        self.leavings = [None] * size
        # The locks that each process took or asks for, in this order, and has not given.
        self.held = [[] for _ in range(size)]

    def come(self, slot, unit):
        """Note that a process comes in a unit: for the first time, or after a sleep."""
        if self.times[slot] is None:
            self.times[slot] = unit
        else:
            self.programs[slot].append(("sleep", unit - self.leavings[slot]))

    def do(self, slot, deed, unit):
        """Note that a process did a deed in a unit."""
        kind, number = deed
        if kind == "sleep":
            self.leavings[slot] = unit
            return
        if kind == "take":
            # One that asked in vain asks for the same lock again, which is one taking.
            if number in self.held[slot]:
                return
            self.held[slot].append(number)
        if kind == "give":
            self.held[slot].remove(number)
        self.programs[slot].append(deed)

    def hall(self, unit):
        """Return the hall; those who have not come yet come in this unit."""
        processes = []
        for slot, time in enumerate(self.times):
            # The lock that was taken first has to be given first, if there is a hold.
            gives = [("give", lock) for lock in self.held[slot]]
            program = plainest(self.programs[slot] + gives)
            processes.append((unit if time is None else time, program))
        return processes


def history_to(origins, place):
    """Return the history that leads to a place.

    The origins tell for each place (place one unit before, who came, who ran, deed),
    None where there is no unit before.
    """
    history = []
    while origins[place] is not None:
        place, comers, who, deed = origins[place]
        history.append((comers, who, deed))
    return history[::-1]


def hall_of(history, size):
    """Return a hall that has this history."""
    writer = Writer(size)
    for unit, (comers, who, deed) in enumerate(history):
        for slot in comers:
            writer.come(slot, unit)
        if deed is not None:
            writer.do(who, deed, unit)
    return writer.hall(len(history))
