"""A rule's days by a plain going through of all days, beside Python's own calendar."""

import calendar
import datetime
import functools

DAY_0 = datetime.date(2001, 1, 1)
LAST_DAY = 99999
LATEST = 99990


def facts_of_all_days():
    """For each day its month, counted from January 2001, its date in it, its weekday, and its month's length."""
    facts = []
    lengths = {}
    for day in range(LAST_DAY + 1):
        date = DAY_0 + datetime.timedelta(days=day)
        key = (date.year, date.month)
        if key not in lengths:
            lengths[key] = calendar.monthrange(*key)[1]
        facts.append((12 * (date.year - 2001) + date.month - 1, date.day, date.weekday(), lengths[key]))
    return facts


FACTS = facts_of_all_days()


def comes_on(rule, day):
    """Whether a rule comes on a day from its first one on, whatever its end is."""
    first, minute, length, how, end = rule
    if how[0] == "once":
        return day == first
    if how[0] == "days":
        return (day - first) % how[1] == 0
    month, date, weekday, month_length = FACTS[day]
    first_month, first_date, first_weekday, first_length = FACTS[first]
    if how[0] == "weeks":
        weeks_behind = ((day - weekday) - (first - first_weekday)) // 7
        return weekday in how[2] and weeks_behind % how[1] == 0
    if (month - first_month) % how[1] != 0:
        return False
    if len(how) == 3:
        return date == how[2]
    if weekday != how[3]:
        return False
    if how[2] == -1:
        return date + 7 > month_length
    return len(range(date, 0, -7)) == how[2]


@functools.lru_cache(maxsize=8)
def endless_days(first, how):
    """All days of a rule without an end."""
    rule = (first, 0, 1, how, None)
    return [day for day in range(first, LATEST + 1) if comes_on(rule, day)]


def plain_days(rule):
    """All days of a rule."""
    first, minute, length, how, end = rule
    days = list(endless_days(first, how))
    if end is None:
        return days
    if end[0] == "times":
        return days[:end[1]]
    return [day for day in days if day <= end[1]]
