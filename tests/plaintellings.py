"""What tellings tell, by the lists of all of their rule's days and minute by minute."""

import functools

from plaindays import FACTS, plain_days


@functools.lru_cache(maxsize=20000)
def slow_moment(clock, time):
    """The moment of a local time, minute by minute from a day ahead of it on."""
    before = None
    for moment in range(time - 900, time + 2000):
        now = moment + [offset for begin, offset in clock if begin <= moment][-1]
        if now == time:
            return moment
    for moment in range(time - 900, time + 2000):
        now = moment + [offset for begin, offset in clock if begin <= moment][-1]
        if before is not None and before < time < now:
            return moment
        before = now


@functools.lru_cache(maxsize=200)
def set_of_days(rule):
    return frozenset(plain_days(rule))


def plain_told(telling, day):
    """What is told of a day, or None."""
    clock, rule, place, changes = telling
    if day not in set_of_days(rule):
        return None
    for other, change in changes:
        if other == day:
            return None if change == ("off",) else change[1:]
    return (day, rule[1], rule[2], place)


def plain_moment_told(telling, day):
    """The moment, the length and the place that are told of a day, or None."""
    found = plain_told(telling, day)
    if found is None:
        return None
    return (slow_moment(telling[0], 1440 * found[0] + found[1]), found[2], found[3])


def plain_put(telling, day, change):
    """The telling with a day's change; a text that tells why where it is refused."""
    clock, rule, place, changes = telling
    if day not in set_of_days(rule):
        return "no day"
    left = [pair for pair in changes if pair[0] != day]
    if change is not None and change != ("is", day, rule[1], rule[2], place):
        left.append((day, change))
    return "too many" if len(left) > 100 else (clock, rule, place, tuple(sorted(left)))


def same_stretch(kind, day):
    """What the days of a day's week, or of its month, have alike."""
    return (day - FACTS[day][2]) // 7 if kind == "weeks" else FACTS[day][0]


def plain_carried(telling, clock, rule, place):
    """The changes carried as the point words it, by the lists of all days."""
    old_days, new_days = plain_days(telling[1]), plain_days(rule)
    changes = dict(telling[3])
    on, lived, lost = {}, {}, {}
    for day in changes:
        if day in new_days:
            on[day], lived[day] = changes[day], day
    for day in sorted(changes):
        if day in lived:
            continue
        kinds = {telling[1][3][0], rule[3][0]}
        targets = []
        if kinds in ({"weeks"}, {"months"}):
            kind = kinds.pop()
            old_stretch = [other for other in old_days if same_stretch(kind, other) == same_stretch(kind, day)]
            new_stretch = [other for other in new_days if same_stretch(kind, other) == same_stretch(kind, day)]
            ahead = len([other for other in old_stretch if other < day])
            targets = [target for target in new_stretch
                       if len([other for other in new_stretch if other < target]) == ahead]
        if targets and targets[0] in on:
            lost[day] = "taken"
        elif targets:
            on[targets[0]], lived[day] = changes[day], targets[0]
        elif not new_days or day < new_days[0]:
            lost[day] = "ahead"
        else:
            lost[day] = "behind" if day > new_days[-1] else "between"
    left = [(day, on[day]) for day in sorted(on) if on[day] != ("is", day, rule[1], rule[2], place)]
    return ((clock, rule, place, tuple(left)), tuple(sorted(lived.items())), tuple(sorted(lost.items())))
