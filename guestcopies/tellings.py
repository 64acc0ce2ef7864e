"""Tellings: what is told of a meeting, with the changes of its single days."""

from guestcopies.clocks import is_clock, moment_of
from guestcopies.daytexts import DAY_MINUTES
from guestcopies.errors import NoDay, TooMany
from guestcopies.kinds import is_whole, is_word, plain_copy, rises
from guestcopies.ruledays import days_of, ended_by_day, is_day
from guestcopies.rules import is_rule, is_slot

MOST_CHANGES = 100


def is_change(thing):
    """Whether a thing is a change of a day."""
    if not isinstance(thing, tuple):
        return False
    if len(thing) == 1:
        return thing[0] == "off"
    return len(thing) == 5 and thing[0] == "is" and is_slot(thing[1:4]) and is_word(thing[4])


def is_bare(rule, place, day, change):
    """Whether a change of a day tells just what the rule and the place tell anyway."""
    return change == ("is", day, rule[1], rule[2], place)


def is_day_with_change(rule, place, thing):
    """Whether a thing may stand among the changes of a telling with this rule and place."""
    if not isinstance(thing, tuple) or len(thing) != 2:
        return False
    day, change = thing
    if not is_whole(day) or not is_change(change):
        return False
    return is_day(rule, day) and not is_bare(rule, place, day, change)


def are_changes(rule, place, thing):
    """Whether a thing may be the changes of a telling with this rule and place."""
    if not isinstance(thing, tuple) or len(thing) > MOST_CHANGES:
        return False
    ended = ended_by_day(rule)
    if not all([is_day_with_change(ended, place, part) for part in thing]):
        return False
    return rises([day for day, change in thing])


def is_telling(thing):
    """Whether a thing is a telling."""
    if not isinstance(thing, tuple) or len(thing) != 4:
        return False
    clock, rule, place, changes = thing
    return is_clock(clock) and is_rule(rule) and is_word(place) and are_changes(rule, place, changes)


def told_by(rule, place, day, change):
    """What is told of a day of the rule with this change, or with none (None)."""
    if change is None:
        return plain_copy((day, rule[1], rule[2], place))
    if change[0] == "off":
        return None
    return plain_copy(change[1:])


def told(telling, day):
    """What is told of a day: a tuple (day, minute, length, place), or None."""
    clock, rule, place, changes = telling
    if not is_day(rule, day):
        return None
    return told_by(rule, place, day, dict(changes).get(day))


def meetings(telling, low, high):
    """The meetings of the rule's days from low to high, as tuples (day, what is told of it)."""
    clock, rule, place, changes = telling
    by_day = dict(changes)
    found = [(day, told_by(rule, place, day, by_day.get(day))) for day in days_of(rule, low, high)]
    return [(day, meeting) for day, meeting in found if meeting is not None]


def at_its_moment(clock, meeting):
    """What is told of a day as a tuple (moment, length, place)."""
    day, minute, length, place = meeting
    return (moment_of(clock, DAY_MINUTES * day + minute), length, place)


def moment_told(telling, day):
    """What is told of a day as a tuple (moment, length, place), or None."""
    meeting = told(telling, day)
    return None if meeting is None else at_its_moment(telling[0], meeting)


def moments(telling, low, high):
    """The moments of these meetings, as sorted tuples (moment, length, place, day)."""
    return sorted([at_its_moment(telling[0], meeting) + (day,) for day, meeting in meetings(telling, low, high)])


def quick_to_ask(telling):
    """A telling that tells the same, for who asks often: its rule needn't be counted through each time."""
    clock, rule, place, changes = telling
    return (clock, ended_by_day(rule), place, changes)


def with_change(telling, day, change):
    """The telling with this change of the day; None, or a bare one, takes the day's change back."""
    clock, rule, place, changes = telling
    if not is_day(rule, day):
        raise NoDay(int(day))
    by_day = dict(changes)
    if change is None or is_bare(rule, place, day, change):
        by_day.pop(day, None)
    else:
        by_day[day] = change
    if len(by_day) > MOST_CHANGES:
        raise TooMany(MOST_CHANGES)
    return plain_copy((clock, rule, place, tuple(sorted(by_day.items()))))
