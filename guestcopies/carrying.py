"""Tellings told anew, and their changes carried to the new rule's days."""

from guestcopies.days import first_of, month_of, weekday
from guestcopies.kinds import plain_copy
from guestcopies.ruledays import day_at, days_of, ended_by_day, is_day, last_day
from guestcopies.tellings import is_bare


def week_of(day):
    """The first and the last day of a day's week."""
    monday = day - weekday(day)
    return (monday, monday + 6)


def days_of_its_month(day):
    """The first and the last day of a day's month."""
    month = month_of(day)
    return (first_of(month), first_of(month + 1) - 1)


def counterpart(old_rule, new_rule, day):
    """The new rule's day that has the old day's place in its week or month, or None."""
    kind = old_rule[3][0]
    if kind not in ("weeks", "months") or new_rule[3][0] != kind:
        return None
    low, high = week_of(day) if kind == "weeks" else days_of_its_month(day)
    place = days_of(old_rule, low, high).index(day)
    new_days = days_of(new_rule, low, high)
    return new_days[place] if place < len(new_days) else None


def why_lost(rule, day):
    """Why a day's change has no day in the new rule."""
    last = last_day(rule)
    if last is None or day < day_at(rule, 0):
        return "ahead"
    return "behind" if day > last else "between"


def carried(telling, clock, rule, place):
    """The telling told anew, the days (old, new) of changes that lived, and (old, why) of those lost."""
    old_rule, changes = ended_by_day(telling[1]), telling[3]
    new_rule = ended_by_day(rule)
    stayed = [(day, change) for day, change in changes if is_day(new_rule, day)]
    # By their new days; also those that are bare now, for they keep their days from others.
    living = dict(stayed)
    lived = [(day, day) for day, change in stayed]
    lost = []
    for day, change in changes:
        if is_day(new_rule, day):
            continue
        target = counterpart(old_rule, new_rule, day)
        if target is None:
            lost.append((day, why_lost(new_rule, day)))
        elif target in living:
            lost.append((day, "taken"))
        else:
            living[target] = change
            lived.append((day, target))
    told_on = [(day, living[day]) for day in sorted(living) if not is_bare(rule, place, day, living[day])]
    return plain_copy(((clock, rule, place, tuple(told_on)), tuple(sorted(lived)), tuple(lost)))
