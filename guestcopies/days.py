"""Days by their numbers, and their dates, weekdays and months."""

from guestcopies.errors import NoDate
from guestcopies.kinds import is_between, is_whole

LAST_DAY = 99999
FIRST_YEAR = 2001
MONTH_LENGTHS = (31, 28, 31, 30, 31, 30, 31, 31, 30, 31, 30, 31)
DAYS_AHEAD = (0, 31, 59, 90, 120, 151, 181, 212, 243, 273, 304, 334)
# Months and days of 400 years: behind so many the calendar comes again.
ROUND_MONTHS = 4800
ROUND_DAYS = 146097


def has_leap_day(year):
    """Whether February of this year has 29 days."""
    return year % 4 == 0 and (year % 100 != 0 or year % 400 == 0)


def first_of(month):
    """The first day of a month, months counted from January 2001."""
    years, place = divmod(month, 12)
    days = 365 * years + years // 4 - years // 100 + years // 400 + DAYS_AHEAD[place]
    if place > 1 and has_leap_day(FIRST_YEAR + years):
        days += 1
    return days


def month_length(month):
    """How many days a month has, months counted from January 2001."""
    years, place = divmod(month, 12)
    if place == 1 and has_leap_day(FIRST_YEAR + years):
        return 29
    return MONTH_LENGTHS[place]


def month_of(day):
    """The month of a day, counted from January 2001."""
    # By the mean length of months the guess is at most a month or two off.
    month = day * ROUND_MONTHS // ROUND_DAYS
    while first_of(month) > day:
        month -= 1
    while first_of(month + 1) <= day:
        month += 1
    return month


def weekday(day):
    """The weekday of a day, from 0, Monday, to 6."""
    return day % 7


def date_of(day):
    """The date of a day: a tuple (year, month, day)."""
    month = month_of(day)
    years, place = divmod(month, 12)
    return (FIRST_YEAR + years, place + 1, day - first_of(month) + 1)


def day_of(thing):
    """The day whose date a thing is; NoDate where it is that of none."""
    if not isinstance(thing, tuple) or len(thing) != 3:
        raise NoDate("a date is a tuple (year, month, day)")
    year, place, date = thing
    if not is_whole(year) or not is_between(place, 1, 12):
        raise NoDate("no such year or month")
    month = 12 * (year - FIRST_YEAR) + place - 1
    if not is_between(date, 1, month_length(month)):
        raise NoDate("no such day in the month")
    day = first_of(month) + date - 1
    if not 0 <= day <= LAST_DAY:
        raise NoDate("ahead of the first day of all, or behind the last one")
    return day
