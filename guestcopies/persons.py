"""Persons: their clocks, hours and busy times, and what bars a time for them."""

from guestcopies.clocks import is_clock
from guestcopies.days import weekday
from guestcopies.daytexts import DAY_MINUTES
from guestcopies.kinds import is_between

EARLIEST_MOMENT = 1440
LATEST_MOMENT = 143998559
WEEK_DAYS = 7
MOST_BUSY = 200


def are_hours_of_a_day(thing):
    """Whether a thing tells the hours of one weekday: None, or the minutes (from, to)."""
    if thing is None:
        return True
    if not isinstance(thing, tuple) or len(thing) != 2:
        return False
    begin, end = thing
    return is_between(begin, 0, DAY_MINUTES) and is_between(end, 0, DAY_MINUTES) and begin < end


def are_hours(thing):
    """Whether a thing tells the hours of all weekdays."""
    if not isinstance(thing, tuple) or len(thing) != WEEK_DAYS:
        return False
    return all([are_hours_of_a_day(part) for part in thing])


def is_busy_time(thing):
    """Whether a thing is a busy time: a tuple (moment, length)."""
    if not isinstance(thing, tuple) or len(thing) != 2:
        return False
    moment, length = thing
    return is_between(moment, EARLIEST_MOMENT, LATEST_MOMENT) and is_between(length, 1, DAY_MINUTES)


def are_busy_times(thing):
    """Whether a thing has the busy times of a person."""
    if not isinstance(thing, tuple) or len(thing) > MOST_BUSY:
        return False
    return all([is_busy_time(part) for part in thing])


def is_person(thing):
    """Whether a thing is a person."""
    if not isinstance(thing, tuple) or len(thing) != 3:
        return False
    clock, hours, busy = thing
    return is_clock(clock) and are_hours(hours) and are_busy_times(busy)


def local_stretches(clock, begin, end):
    """The local times from one moment on, ahead of another: between turns one behind the other, as (first, behind)."""
    found = []
    for place, (turn, offset) in enumerate(clock):
        low = max(begin, turn)
        high = min(end, clock[place + 1][0]) if place + 1 < len(clock) else end
        if low < high:
            found.append((low + offset, high + offset))
    return found


def are_within_hours(hours, first, behind):
    """Whether all local times from first on, ahead of behind, are within the hours of their weekdays."""
    for day in range(first // DAY_MINUTES, (behind - 1) // DAY_MINUTES + 1):
        minutes = hours[weekday(day)]
        low = max(first - DAY_MINUTES * day, 0)
        high = min(behind - DAY_MINUTES * day, DAY_MINUTES)
        if minutes is None or low < minutes[0] or high > minutes[1]:
            return False
    return True


def bar(person, moment, length):
    """What bars a time from a moment on, so long, for a person: hours, busy, or None."""
    clock, hours, busy = person
    end = moment + length
    if not all([are_within_hours(hours, first, behind) for first, behind in local_stretches(clock, moment, end)]):
        return "hours"
    if any([begin < end and begin + lasting > moment for begin, lasting in busy]):
        return "busy"
    return None
