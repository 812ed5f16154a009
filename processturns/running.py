"""Runs of halls: who runs in each unit, and what comes of it."""

from processturns.checks import check_number
from processturns.halls import check_hall
from processturns.machine import machine_for
from processturns.schedulers import check_scheduler

MOST_UNITS = 200


def check_units(value):
    """Raise BadNumber if the value is not a number of units to run."""
    check_number(value, 0, MOST_UNITS)


def check_run(scheduler, hall, most):
    """Raise the error for the first of what a run needs that is not valid."""
    check_hall(hall)
    check_scheduler(scheduler, len(hall))
    check_units(most)


def rows_told(machine, most):
    """Let a machine run up to so many units; return what each tick tells."""
    rows = []
    while len(rows) < most and machine.goes_on():
        rows.append(machine.tick())
    return rows


def rows_of(scheduler, hall, most):
    """Return for each unit the words as it was chosen, who ran, and what came of it.

    This and run_of do not look at whether the arguments are valid.
    """
    return rows_told(machine_for(scheduler, hall), most)


def run_of(scheduler, hall, most):
    """Return the list of who runs in each unit."""
    return [row[1] for row in rows_of(scheduler, hall, most)]


def run(scheduler, hall, most):
    """Return the list of who runs in each unit, None for nobody."""
    check_run(scheduler, hall, most)
    return run_of(scheduler, hall, most)


def log(scheduler, hall, most):
    """Return the list of tuples (who runs, what came of it)."""
    check_run(scheduler, hall, most)
    return [(row[1], row[2]) for row in rows_of(scheduler, hall, most)]


def status_rows(scheduler, hall, most):
    """Return for each unit the list of the words for the processes, as it was chosen."""
    check_run(scheduler, hall, most)
    return [row[0] for row in rows_of(scheduler, hall, most)]


def ends(scheduler, hall, most):
    """Return "open", "ended" or "stuck", as it is after so many units."""
    check_run(scheduler, hall, most)
    machine = machine_for(scheduler, hall)
    rows_told(machine, most)
    if machine.goes_on():
        return "open"
    return "stuck" if "waits" in machine.words() else "ended"
