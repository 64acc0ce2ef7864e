"""Rules by which a meeting comes again."""

from guestcopies.daytexts import DAY_MINUTES
from guestcopies.kinds import is_between, rises

EARLIEST = 2
LATEST = 99990
MOST_APART = 99
MOST_TIMES = 1000


def is_meeting_day(thing):
    """Whether a thing is a day on which a meeting may be."""
    return is_between(thing, EARLIEST, LATEST)


def is_slot(thing):
    """Whether a thing is a tuple of a meeting's day, minute and length."""
    if not isinstance(thing, tuple) or len(thing) != 3:
        return False
    day, minute, length = thing
    return is_meeting_day(day) and is_between(minute, 0, DAY_MINUTES - 1) and is_between(length, 1, DAY_MINUTES)


def is_weekday(thing):
    """Whether a thing is the number of a weekday."""
    return is_between(thing, 0, 6)


def are_weekdays(thing):
    """Whether a thing is a tuple of one weekday or more, rising."""
    if not isinstance(thing, tuple) or not thing:
        return False
    return all([is_weekday(part) for part in thing]) and rises(thing)


def is_day_in_month(parts):
    """Whether these are a date, or which one of a weekday and that weekday."""
    if len(parts) == 1:
        return is_between(parts[0], 1, 31)
    if len(parts) != 2 or not is_weekday(parts[1]):
        return False
    return is_between(parts[0], 1, 5) or is_between(parts[0], -1, -1)


def is_how(thing):
    """Whether a thing tells how a meeting comes again."""
    if not isinstance(thing, tuple) or not thing:
        return False
    kind, *parts = thing
    if kind == "once":
        return not parts
    if not parts or not is_between(parts[0], 1, MOST_APART):
        return False
    if kind == "days":
        return len(parts) == 1
    if kind == "weeks":
        return len(parts) == 2 and are_weekdays(parts[1])
    return kind == "months" and is_day_in_month(parts[1:])


def is_end(thing, first):
    """Whether a thing is the end of a rule whose first day is this one."""
    if thing is None:
        return True
    if not isinstance(thing, tuple) or len(thing) != 2:
        return False
    kind, number = thing
    if kind == "times":
        return is_between(number, 1, MOST_TIMES)
    return kind == "until" and is_between(number, first, LATEST)


def is_rule(thing):
    """Whether a thing is a rule."""
    if not isinstance(thing, tuple) or len(thing) != 5:
        return False
    first, minute, length, how, end = thing
    return is_slot((first, minute, length)) and is_how(how) and is_end(end, first)
