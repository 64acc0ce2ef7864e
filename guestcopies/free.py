"""The first times that are free for all, and the least barred one."""

from guestcopies.errors import TooMany
from guestcopies.kinds import plain_copy
from guestcopies.persons import bar

MOST_TRIED = 200


def tried_moments(length, low, high, step):
    """The moments that are tried; TooMany where they would be more than the most."""
    # A step below its bound shall raise no error, least of all by dividing.
    step = max(1, step)
    # Reckoned: so many moments needn't be there to be refused. None, or fewer, where the length ends behind high.
    many = (high - length - low) // step + 1
    if many > MOST_TRIED:
        raise TooMany(MOST_TRIED)
    return [low + step * place for place in range(many)]


def who_bar(people, moment, length):
    """The sorted names of all who bar a time."""
    return sorted([plain_copy(name) for name, person in people if bar(person, moment, length) is not None])


def first_times(people, length, low, high, step, count):
    """The first moments at which nobody bars, and those ahead of them (moment, names) that somebody does."""
    free = []
    barred = []
    for moment in tried_moments(length, low, high, step):
        if len(free) >= count:
            break
        names = who_bar(people, moment, length)
        if names:
            barred.append((moment, names))
        else:
            free.append(moment)
    # Behind the last free one nothing was looked at where so many are found; else all was.
    return (free, barred)


def least_barred(people, length, low, high, step):
    """The first moment at which the fewest bar, with their names; None where none is tried."""
    best = None
    for moment in tried_moments(length, low, high, step):
        names = who_bar(people, moment, length)
        if best is None or len(names) < len(best[1]):
            best = (moment, names)
    return best
