"""Checks of numbers, which the other files share."""

from processturns.errors import BadNumber


def is_number(value, least, greatest):
    """Return True if the value is an integer within the bounds, else False."""
    # To Python, True and False are integers; to this package they are not.
    if not isinstance(value, int) or isinstance(value, bool):
        return False
    return least <= value <= greatest


def is_row(value, many, least, greatest):
    """Return True if the value is a tuple of so many integers within the bounds."""
    if not isinstance(value, tuple) or len(value) != many:
        return False
    return all(is_number(item, least, greatest) for item in value)


def check_number(value, least, greatest):
    """Raise BadNumber if the value is not an integer within the bounds."""
    if not is_number(value, least, greatest):
        raise BadNumber(f"this is no integer from {least} to {greatest}")
