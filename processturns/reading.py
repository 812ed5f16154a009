"""Records of runs, and which schedulers of a family can have made them."""

from processturns.checks import is_number
from processturns.errors import BadRecord
from processturns.halls import is_hall
from processturns.running import MOST_UNITS, check_units, run_of
from processturns.schedulers import check_family, check_scheduler

MOST_RECORDS = 20


def is_record(value):
    """Return True if the value is a record, else False."""
    if not isinstance(value, tuple) or len(value) != 2:
        return False
    hall, ran = value
    if not is_hall(hall) or not isinstance(ran, list) or len(ran) > MOST_UNITS:
        return False
    return all([who is None or is_number(who, 0, len(hall) - 1) for who in ran])


def check_record(value):
    """Raise BadRecord if the value is no record."""
    if not is_record(value):
        raise BadRecord("this is no record")


def check_records(value):
    """Raise BadRecord if the value is no list of records with halls of one size."""
    if not isinstance(value, list) or not 1 <= len(value) <= MOST_RECORDS:
        raise BadRecord("these are not 1 to 20 records")
    for item in value:
        check_record(item)
    if any([len(hall) != len(value[0][0]) for hall, _ in value]):
        raise BadRecord("the halls are not of one size")


def made(scheduler, record):
    """Return True if the scheduler can have made the record, else False."""
    return first_bar(scheduler, record) is None


def first_bar(scheduler, record):
    """Return the first unit in which the scheduler's run is otherwise or has ended, or None."""
    check_record(record)
    check_scheduler(scheduler, len(record[0]))
    return _bar(scheduler, record)


def _bar(scheduler, record):
    """Return the same as first_bar, where both arguments are known to be valid."""
    hall, ran = record
    own = run_of(scheduler, hall, len(ran))
    for unit, who in enumerate(ran):
        if unit == len(own) or own[unit] != who:
            return unit
    return None


def remains(family, records):
    """Return the ascending list of the places of those that can have made all records."""
    return [place for place, bar in enumerate(bars(family, records)) if bar is None]


def bars(family, records):
    """Return for each of a family (place of the first record it cannot have made, bar), or None."""
    check_records(records)
    check_family(family, len(records[0][0]))
    return [_first_barred(scheduler, records) for scheduler in family]


def _first_barred(scheduler, records):
    """Return a tuple (place of the first record that is barred, its first bar), or None."""
    for place, record in enumerate(records):
        bar = _bar(scheduler, record)
        if bar is not None:
            return place, bar
    return None


def places_by(values):
    """Return the places of equal values: ascending lists, in the order of their first places."""
    found = {}
    for place, value in enumerate(values):
        found.setdefault(value, []).append(place)
    return list(found.values())


def _family_runs(family, hall, most):
    """Return the runs of a family as tuples, or raise the error for what is not valid."""
    if not is_hall(hall):
        raise BadRecord("this is no hall")
    check_family(family, len(hall))
    check_units(most)
    return [tuple(run_of(scheduler, hall, most)) for scheduler in family]


def groups(family, hall, most):
    """Return the places in a family by equal runs of a hall."""
    return places_by(_family_runs(family, hall, most))


def needed_units(family, hall, most):
    """Return the least number of units after which there are as many groups."""
    runs = _family_runs(family, hall, most)
    many = len(places_by(runs))
    units = 0
    while len(places_by([ran[:units] for ran in runs])) < many:
        units += 1
    return units
