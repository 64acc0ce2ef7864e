"""The days of a rule.

A rule's days lie in stretches, numbered from 0, first's own, on: of a rule by weeks or
by months each n-th week or month, else single days. So a day's stretch can be
reckoned, and what lies between needn't be gone through.
"""

from guestcopies.days import first_of, month_length, month_of, weekday
from guestcopies.rules import LATEST

SURE_DATE = 28
FIFTH = 5


def base_of(first, how):
    """What stretches are counted from: a day, or of a rule by months a month."""
    if how[0] == "months":
        return month_of(first)
    if how[0] == "weeks":
        return first - weekday(first)
    return int(first)


def apart(how):
    """How many days, weeks or months lie from one stretch to the next."""
    # A number below its bound shall raise no error, least of all by dividing.
    return max(1, how[1])


def stretch_at(base, how, day):
    """The last stretch that begins on a day or ahead of it."""
    if how[0] == "once":
        return 0
    if how[0] == "days":
        return (day - base) // apart(how)
    if how[0] == "weeks":
        return (day - base) // (7 * apart(how))
    return (month_of(day) - base) // apart(how)


def days_of_month(how, month):
    """The day that a rule by months has in a month, as a list: of one, or of none."""
    begin = first_of(month)
    length = month_length(month)
    if len(how) == 3:
        date = how[2]
    elif how[2] == -1:
        date = length - (begin + length - 1 - how[3]) % 7
    else:
        date = 7 * how[2] - 6 + (how[3] - begin) % 7
    return [begin + date - 1] if date <= length else []


def stretch_days(base, how, stretch):
    """The days of a stretch, rising, also those ahead of first or behind the end."""
    if how[0] == "once":
        return [base] if stretch == 0 else []
    if how[0] == "days":
        return [base + apart(how) * stretch]
    if how[0] == "weeks":
        monday = base + 7 * apart(how) * stretch
        return [monday + place for place in how[2]]
    return days_of_month(how, base + apart(how) * stretch)


def steady_size(how):
    """How many days each stretch has, 0 where they haven't all as many."""
    if how[0] == "weeks":
        return len(how[2])
    if how[0] == "months" and how[2] > (SURE_DATE if len(how) == 3 else FIFTH - 1):
        return 0
    return 1


def days_through(base, how, low, high):
    """The days of the stretches from one to another, both too, rising."""
    return [day for stretch in range(low, high + 1) for day in stretch_days(base, how, stretch)]


def how_many_ahead_of_first(first, how):
    """How many days of first's own stretch are ahead of first, and so none of the rule's."""
    return len([day for day in stretch_days(base_of(first, how), how, 0) if day < first])


def endless_day_at(first, how, place):
    """The day with so many days ahead of it, whatever end the rule has; None where there is none."""
    base = base_of(first, how)
    place += how_many_ahead_of_first(first, how)
    stretch, last = 0, stretch_at(base, how, LATEST)
    size = steady_size(how)
    if size:
        stretch, place = divmod(place, size)
    while stretch <= last:
        days = stretch_days(base, how, stretch)
        if 0 <= place < len(days):
            return days[place]
        place -= len(days)
        stretch += 1
    return None


def latest_of(rule):
    """A day behind which the rule has none, and ahead of which its end leaves none out."""
    first, minute, length, how, end = rule
    if end is None:
        return LATEST
    if end[0] == "until":
        return min(end[1], LATEST)
    day = endless_day_at(first, how, end[1] - 1)
    return LATEST if day is None else min(day, LATEST)


def ended_by_day(rule):
    """A rule of the same days that ends by a day: who asks often needn't count each time."""
    first, minute, length, how, end = rule
    return (first, minute, length, how, ("until", latest_of(rule)))


def days_of(rule, low, high):
    """The rule's days from low to high, rising."""
    first, minute, length, how, end = rule
    low = max(low, first)
    high = min(high, latest_of(rule))
    if low > high:
        return []
    base = base_of(first, how)
    days = days_through(base, how, stretch_at(base, how, low), stretch_at(base, how, high))
    return [day for day in days if low <= day <= high]


def is_day(rule, day):
    """Whether a day is one of the rule's."""
    first, minute, length, how, end = rule
    base = base_of(first, how)
    # The end comes last: to find it may take a count, which most days needn't wait for.
    return day in stretch_days(base, how, stretch_at(base, how, day)) and first <= day <= latest_of(rule)


def place_of(rule, day):
    """How many of the rule's days are ahead of this one; None where it is none of them."""
    if not is_day(rule, day):
        return None
    first, minute, length, how, end = rule
    base = base_of(first, how)
    stretch = stretch_at(base, how, day)
    size = steady_size(how)
    ahead = size * stretch if size else len(days_through(base, how, 0, stretch - 1))
    return ahead + stretch_days(base, how, stretch).index(day) - how_many_ahead_of_first(first, how)


def day_at(rule, place):
    """The rule's day with so many of its days ahead of it, or None."""
    first, minute, length, how, end = rule
    if place < 0:
        return None
    day = endless_day_at(first, how, place)
    return day if day is not None and day <= latest_of(rule) else None


def last_day(rule):
    """The rule's last day, or None where it has none."""
    first, minute, length, how, end = rule
    latest = latest_of(rule)
    base = base_of(first, how)
    stretch = stretch_at(base, how, latest)
    while stretch >= 0:
        days = [day for day in stretch_days(base, how, stretch) if first <= day <= latest]
        if days:
            return days[-1]
        stretch -= 1
    return None
