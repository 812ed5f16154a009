"""Wrong arguments, each alone and two at once: of two, the one that is checked first is raised."""


def raises_in_order(test, function, right, wrongs, few=3):
    """Try wrong values for right arguments; wrongs are (place of the argument, values, error), in the order of checks.

    Behind a wrong value, so many of the wrong values for what is checked later are tried, too.
    """
    function(*right)
    for at, (place, values, error) in enumerate(wrongs):
        for value in values:
            given = list(right)
            given[place] = value
            refuse(test, function, given, error)
            for later, others, _ in wrongs[at + 1:]:
                if later == place:
                    continue
                for other in others[::max(1, len(others) // few)]:
                    both = list(given)
                    both[later] = other
                    refuse(test, function, both, error)


def refuse(test, function, given, error):
    try:
        function(*given)
    except Exception as raised:
        test.assertIs(raised.__class__, error, (function.__name__, given))
    else:
        test.fail((function.__name__, given))
