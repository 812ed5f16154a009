"""Programs, halls and schedulers as texts, and back."""

from processturns.checks import check_number
from processturns.errors import BadText
from processturns.halls import MOST_PROCESSES, check_hall, is_hall
from processturns.programs import check_program, is_program
from processturns.schedulers import check_scheduler, is_scheduler

# At the places 0 and 1: the words for the numbers.
TAKINGS = ("keeping", "taking")
LATES = ("early", "late")


def format_program(program):
    """Return the text of a program."""
    check_program(program)
    return ", ".join([f"{kind} {number}" for kind, number in program])


def format_hall(hall):
    """Return the text of a hall."""
    check_hall(hall)
    return "; ".join([f"{comes}: {format_program(program)}" for comes, program in hall])


def format_scheduler(scheduler, size):
    """Return the text of a scheduler for a size."""
    check_number(size, 1, MOST_PROCESSES)
    check_scheduler(scheduler, size)
    return " ".join([str(word) for word in _words_of(scheduler)])


def _words_of(scheduler):
    """Return the words and numbers of a scheduler's text."""
    kind = scheduler[0]
    if kind in ("first", "last"):
        return [kind]
    if kind == "rounds":
        return [kind, scheduler[1], LATES[scheduler[2]]]
    words = [kind] + list(scheduler[1])
    if kind == "order":
        words.append(TAKINGS[scheduler[2]])
        words.extend(_words_of_rule(scheduler[3]))
    if kind == "levels":
        words.extend(["raised", scheduler[2]])
    if kind == "aging":
        words.extend(["step", scheduler[2]])
    return words


def _words_of_rule(rule):
    """Return the words and numbers of an order's rule."""
    return [rule[0]] + (list(rule[1]) if rule[0] == "top" else [])


def _check_text(value):
    """Raise BadText if the value is not a string."""
    if not isinstance(value, str):
        raise BadText("a text is a string")


def _number(word):
    """Return the number that a word tells, None if it tells none of at most two digits."""
    if not 1 <= len(word) <= 2 or any([sign not in "0123456789" for sign in word]):
        return None
    if len(word) == 2 and word[0] == "0":
        return None
    return int(word)


def _numbers(words):
    """Return the tuple of the numbers that words tell."""
    return tuple([_number(word) for word in words])


def parse_program(text):
    """Return the program that has this text."""
    _check_text(text)
    program = _program_told(text)
    if not is_program(program):
        raise BadText("this is the text of no program")
    return program


def _program_told(text):
    """Return the list of the deeds that a text tells, whether they are valid or not."""
    if text == "":
        return []
    deeds = []
    for part in text.split(", "):
        kind, _, number = part.partition(" ")
        deeds.append((kind, _number(number)))
    return deeds


def parse_hall(text):
    """Return the hall that has this text."""
    _check_text(text)
    hall = []
    for part in text.split("; "):
        comes, sign, program = part.partition(": ")
        if sign == "":
            raise BadText("there is no time of coming")
        hall.append((_number(comes), _program_told(program)))
    if not is_hall(hall):
        raise BadText("this is the text of no hall")
    return hall


def parse_scheduler(text, size):
    """Return the scheduler for the size that has this text."""
    check_number(size, 1, MOST_PROCESSES)
    _check_text(text)
    scheduler = _scheduler_told(text.split(" "), size)
    if not is_scheduler(scheduler, size):
        raise BadText("this is the text of no scheduler for the size")
    return scheduler


def _scheduler_told(words, size):
    """Return the tuple that the words tell, valid or not, or None."""
    kind = words[0]
    if kind == "order":
        return _order_told(words, size)
    if kind == "rounds" and len(words) == 3 and words[2] in LATES:
        return (kind, _number(words[1]), LATES.index(words[2]))
    if kind == "levels" and len(words) > 3 and words[-2] == "raised":
        return (kind, _numbers(words[1:-2]), _number(words[-1]))
    if kind == "aging" and len(words) > 3 and words[-2] == "step":
        return (kind, _numbers(words[1:-2]), _number(words[-1]))
    if kind in ("due", "shares"):
        return (kind, _numbers(words[1:]))
    if kind in ("first", "last") and len(words) == 1:
        return (kind,)
    return None


def _order_told(words, size):
    """Return the same for an order: its size tells which words are the order."""
    if len(words) < size + 3 or words[size + 1] not in TAKINGS:
        return None
    order = _numbers(words[1:size + 1])
    rule = words[size + 2:]
    if rule[0] == "top":
        return ("order", order, TAKINGS.index(words[size + 1]), ("top", _numbers(rule[1:])))
    return ("order", order, TAKINGS.index(words[size + 1]), tuple(rule))
