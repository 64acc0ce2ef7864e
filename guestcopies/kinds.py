"""What the other modules ask of things that are handed in."""


def is_whole(thing):
    """Whether a thing is a whole number: an int that is no truth."""
    return isinstance(thing, int) and not isinstance(thing, bool)


def is_between(thing, low, high):
    """Whether a thing is a whole number from low to high."""
    return is_whole(thing) and low <= thing <= high


def plain_copy(thing):
    """A thing alike, of the plain kinds themselves, that shares no list with it."""
    if isinstance(thing, bool):
        return thing
    if isinstance(thing, int):
        return int(thing)
    if isinstance(thing, str):
        return str(thing)
    if isinstance(thing, list):
        return [plain_copy(part) for part in thing]
    if isinstance(thing, tuple):
        return tuple([plain_copy(part) for part in thing])
    return thing
