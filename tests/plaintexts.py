"""Texts of rules, tellings and letters read by one pattern for each row."""

import datetime
import re

from guestcopies.letters import is_letter
from guestcopies.rules import is_rule
from guestcopies.tellings import is_telling

# How meetings come again, with the texts of it.
HOWS = (
    (("once",), "once"), (("days", 1), "every 1 days"), (("days", 99), "every 99 days"),
    (("weeks", 1, (0,)), "every 1 weeks on mo"), (("weeks", 2, (0, 2, 4)), "every 2 weeks on mo we fr"),
    (("weeks", 99, (0, 1, 2, 3, 4, 5, 6)), "every 99 weeks on mo tu we th fr sa su"),
    (("weeks", 10, (6,)), "every 10 weeks on su"), (("weeks", 3, (1, 3, 5)), "every 3 weeks on tu th sa"),
    (("months", 1, 1), "every 1 months on 1"), (("months", 99, 31), "every 99 months on 31"),
    (("months", 12, 29), "every 12 months on 29"), (("months", 1, 1, 0), "every 1 months on 1 mo"),
    (("months", 2, 2, 3), "every 2 months on 2 th"), (("months", 3, 3, 1), "every 3 months on 3 tu"),
    (("months", 3, 4, 2), "every 3 months on 4 we"), (("months", 20, 5, 6), "every 20 months on 5 su"),
    (("months", 99, -1, 4), "every 99 months on last fr"), (("months", 1, -1, 5), "every 1 months on last sa"),
)
NUMBER = r"(0|[1-9][0-9]{0,8})"
DAY = r"([0-9]{4}-[0-9]{2}-[0-9]{2})"
WEEKDAY_WORDS = "mo tu we th fr sa su".split()
FORM = re.compile(
    rf"from {DAY} at ([01][0-9]|2[0-3]):([0-5][0-9]) for {NUMBER} "
    rf"(?:(once)|every {NUMBER} days()|every {NUMBER} weeks on ((?:mo|tu|we|th|fr|sa|su)(?: (?:mo|tu|we|th|fr|sa|su))*)"
    rf"|every {NUMBER} months on {NUMBER}|every {NUMBER} months on ([1-5]|last) (mo|tu|we|th|fr|sa|su))"
    rf"(?: times {NUMBER}| until {DAY})?")


def plain_day(text):
    """The day of a text by Python's own calendar, or None."""
    try:
        return (datetime.date.fromisoformat(text) - datetime.date(2001, 1, 1)).days
    except ValueError:
        return None


def plain_reading(text):
    """The rule of a text by one pattern for all of it, or None."""
    found = FORM.fullmatch(text)
    if found is None:
        return None
    (day, hours, minutes, length, once, days, mark, weeks, weekdays, months, date, other_months, which, weekday,
     times, until) = found.groups()
    if once:
        how = ("once",)
    elif days:
        how = ("days", int(days))
    elif weeks:
        how = ("weeks", int(weeks), tuple(WEEKDAY_WORDS.index(word) for word in weekdays.split(" ")))
    elif months:
        how = ("months", int(months), int(date))
    else:
        how = ("months", int(other_months), -1 if which == "last" else int(which), WEEKDAY_WORDS.index(weekday))
    end = ("times", int(times)) if times else ("until", plain_day(until)) if until else None
    rule = (plain_day(day), 60 * int(hours) + int(minutes), int(length), how, end)
    return rule if is_rule(rule) else None


def plain_change(row):
    """A tuple (day, change) of a row by one pattern for all of it, or None."""
    found = re.fullmatch(rf"off {DAY}", row)
    if found:
        return (plain_day(found[1]), ("off",))
    found = re.fullmatch(rf"is {DAY} {DAY} ([01][0-9]|2[0-3]):([0-5][0-9]) {NUMBER} ([a-z]+)", row)
    if not found:
        return None
    minute = 60 * int(found[3]) + int(found[4])
    return (plain_day(found[1]), ("is", plain_day(found[2]), minute, int(found[5]), found[6]))


def plain_telling(rows):
    """The telling of whole rows by patterns, or None."""
    if len(rows) < 3 or not re.fullmatch(rf"clock(?: {NUMBER} (?:{NUMBER}|-[1-9][0-9]{{0,8}}))+", rows[0]):
        return None
    numbers = [int(word) for word in rows[0].split(" ")[1:]]
    place = re.fullmatch("place ([a-z]+)", rows[2])
    changes = [plain_change(row) for row in rows[3:]]
    if place is None or None in changes:
        return None
    telling = (tuple(zip(numbers[::2], numbers[1::2])), plain_reading(rows[1]), place[1], tuple(changes))
    return telling if is_telling(telling) else None


WORD = "([a-z]+)"
MINUTE = "([01][0-9]|2[0-3]):([0-5][0-9])"
LETTER_FORMS = tuple((kind, re.compile(form)) for kind, form in (
    ("call", rf"call {WORD} {NUMBER}"), ("end", rf"end {WORD} {NUMBER}"), ("wish", rf"wish {WORD} {WORD}"),
    ("denied", rf"denied {WORD} {WORD} {WORD} {NUMBER}"),
    ("day", rf"day {WORD} {NUMBER} {DAY} (?:(back)|(off)|is {DAY} {MINUTE} {NUMBER} {WORD})"),
    ("answer", rf"answer {WORD} {WORD} {WORD} {NUMBER} {NUMBER} (?:{DAY}|(all)) (yes|no|perhaps)"),
    ("offer", rf"offer {WORD} {WORD} {WORD} {NUMBER} {NUMBER} {DAY} {DAY} {MINUTE} {NUMBER}"),
))


def plain_slot(day, hours, minutes, length):
    return (plain_day(day), 60 * int(hours) + int(minutes), int(length))


def parts_of(kind, found, rows):
    """A letter's parts behind its kind, of what its pattern found."""
    if kind == "call":
        return (found[0], int(found[1]), plain_telling(rows[1:]))
    if kind == "end":
        return (found[0], int(found[1]))
    if kind == "denied":
        return found[:3] + (int(found[3]),)
    if kind == "day":
        change = None if found[3] else ("off",) if found[4] else ("is",) + plain_slot(*found[5:9]) + (found[9],)
        return (found[0], int(found[1]), plain_day(found[2]), change)
    if kind == "wish":
        return found
    head = found[:3] + (int(found[3]), int(found[4]))
    if kind == "answer":
        # A text that is no day's would else be read as all days.
        return head + (None if found[6] else plain_day(found[5]) or 0, found[7])
    return head + (plain_day(found[5]), plain_slot(*found[6:]))


def plain_letter(rows):
    """The letter of whole rows by patterns, or None."""
    for kind, form in LETTER_FORMS:
        found = form.fullmatch(rows[0]) if rows else None
        if found and (kind == "call" or len(rows) == 1):
            letter = (kind,) + parts_of(kind, found.groups(), rows)
            return letter if is_letter(letter) else None
    return None
