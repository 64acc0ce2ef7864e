"""Agendas: the meetings of several tellings within a time, and which of them clash."""

from guestcopies.daytexts import DAY_MINUTES
from guestcopies.kinds import plain_copy
from guestcopies.tellings import moments, quick_to_ask

# A length and an offset together are less than so many days: meetings of days further off don't reach the time.
REACH = 2


def moments_about(telling, low, high):
    """The moments of all meetings that may meet the time from low on and ahead of high, and of some more."""
    quick = quick_to_ask(telling)
    first = low // DAY_MINUTES - REACH
    last = high // DAY_MINUTES + REACH
    found = moments(quick, first, last)
    # A changed day may be moved here from anywhere.
    for day, change in telling[3]:
        if not first <= day <= last:
            found += moments(quick, day, day)
    return found


def agenda(some, low, high):
    """The meetings of some tellings (name, telling) that meet the time from low on and ahead of high."""
    if low > high:
        return []
    found = []
    for name, telling in some:
        for moment, length, place, day in moments_about(telling, low, high):
            if moment < high and moment + length > low:
                found.append((moment, length, plain_copy(name), place, day))
    return sorted(found)


def clashes(agenda):
    """The places of all pairs of an agenda's meetings that clash."""
    times = [(meeting[0], meeting[0] + meeting[1]) for meeting in agenda]
    found = []
    for place, (begin, end) in enumerate(times):
        for other in range(place + 1, len(times)):
            if begin < times[other][1] and times[other][0] < end:
                found.append((place, other))
    return found
