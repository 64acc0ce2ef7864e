"""Houses' clocks: local times by moments, and moments by local times."""

from guestcopies.kinds import is_between, rises

LAST_MOMENT = 143999999
MOST_TURNS = 40
MOST_OFFSET = 840


def is_turn(thing):
    """Whether a thing may be a turn of a clock, whatever turns are beside it."""
    if not isinstance(thing, tuple) or len(thing) != 2:
        return False
    moment, offset = thing
    return is_between(moment, 0, LAST_MOMENT) and is_between(offset, -MOST_OFFSET, MOST_OFFSET)


def is_clock(thing):
    """Whether a thing is a clock."""
    if not isinstance(thing, tuple) or not 1 <= len(thing) <= MOST_TURNS:
        return False
    if not all([is_turn(turn) for turn in thing]):
        return False
    moments = [moment for moment, offset in thing]
    return moments[0] == 0 and rises(moments)


def local(clock, moment):
    """The local time at a moment."""
    now = clock[0][1]
    for begin, offset in clock:
        if begin > moment:
            break
        now = offset
    return moment + now


def comings(clock, time):
    """All moments at which a local time comes, rising."""
    found = []
    for place, (begin, offset) in enumerate(clock):
        moment = time - offset
        ended = place + 1 < len(clock) and moment >= clock[place + 1][0]
        if moment >= begin and not ended:
            found.append(moment)
    return found


def how_often(clock, time):
    """At how many moments a local time comes."""
    return len(comings(clock, time))


def moment_of(clock, time):
    """The first moment at which a local time comes, or is leapt over where it comes at none."""
    found = comings(clock, time)
    if found:
        return found[0]
    # Between turns no minute is left out, so only a turn can leap over a time; a
    # time that never comes lies ahead until the first turn that leaps over it.
    leaps = [moment for moment, offset in clock if moment + offset > time]
    return int(leaps[0])
