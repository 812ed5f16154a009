"""Times of a run: how long the processes ran, waited and were away."""

from processturns.checks import check_number
from processturns.errors import NotFound
from processturns.machine import machine_for
from processturns.running import check_run, log, rows_of, rows_told, run


def _check_all(scheduler, hall, most, slot):
    """Raise the error for the first of a run and a process of it that is not valid."""
    check_run(scheduler, hall, most)
    check_number(slot, 0, len(hall) - 1)


def served(scheduler, hall, most):
    """Return the list of how many units each process ran."""
    ran = run(scheduler, hall, most)
    return [ran.count(slot) for slot in range(len(hall))]


def waits(scheduler, hall, most, slot):
    """Return how many units a process was ready and did not run, and waited for a lock."""
    _check_all(scheduler, hall, most, slot)
    passed_over = 0
    waited = 0
    for words, who, _ in rows_of(scheduler, hall, most):
        if words[slot] == "ready" and who != slot:
            passed_over += 1
        if words[slot] == "waits":
            waited += 1
    return passed_over, waited


def longest_stretch(scheduler, hall, most, slot):
    """Return for how many units in a row a process was there and did not run, at most."""
    _check_all(scheduler, hall, most, slot)
    longest = 0
    stretch = 0
    for words, who, _ in rows_of(scheduler, hall, most):
        stretch = 0 if words[slot] == "away" or who == slot else stretch + 1
        longest = max(longest, stretch)
    return longest


def finish(scheduler, hall, most, slot):
    """Return the number of the unit behind that in which a program ends."""
    _check_all(scheduler, hall, most, slot)
    machine = machine_for(scheduler, hall)
    rows_told(machine, most)
    if machine.finishes[slot] is None:
        raise NotFound("the program does not end in so many units")
    return machine.finishes[slot]


def switches(scheduler, hall, most):
    """Return how often, of the units in which somebody ran, the process is another one."""
    runners = [who for who in run(scheduler, hall, most) if who is not None]
    return len([at for at in range(1, len(runners)) if runners[at] != runners[at - 1]])


def idle_units(scheduler, hall, most):
    """Return in how many units nobody ran."""
    return run(scheduler, hall, most).count(None)


def asked_in_vain(scheduler, hall, most):
    """Return the list of how often each process asked in vain."""
    told = log(scheduler, hall, most)
    return [told.count((slot, "ask")) for slot in range(len(hall))]
