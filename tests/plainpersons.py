"""What bars a time, minute by minute."""

DAY = 1440


def plain_bar(person, moment, length):
    """What bars a time for a person: hours, busy, or None."""
    clock, hours, busy = person
    for minute in range(moment, moment + length):
        time = minute + [offset for begin, offset in clock if begin <= minute][-1]
        span = hours[(time // DAY) % 7]
        if span is None or not span[0] <= time % DAY < span[1]:
            return "hours"
    wanted = set(range(moment, moment + length))
    return "busy" if any(wanted & set(range(begin, begin + long)) for begin, long in busy) else None


def plain_tried(length, low, high, step):
    """The moments that are tried."""
    return [moment for moment in range(low, high + 1, step) if moment + length <= high]


def plain_names(people, moment, length):
    """The sorted names of all who bar."""
    return sorted(name for name, person in people if plain_bar(person, moment, length))
