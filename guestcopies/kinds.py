"""What the other modules ask of things that are handed in."""

MOST_LETTERS = 8


def is_whole(thing):
    """Whether a thing is a whole number: an int that is no truth."""
    return isinstance(thing, int) and not isinstance(thing, bool)


def is_between(thing, low, high):
    """Whether a thing is a whole number from low to high."""
    return is_whole(thing) and low <= thing <= high


def rises(numbers):
    """Whether each of these numbers is greater than the one ahead of it."""
    return all([ahead < behind for ahead, behind in zip(numbers, numbers[1:])])


def is_word(thing):
    """Whether a thing is a word: one to eight small letters a to z."""
    if not isinstance(thing, str) or not 1 <= len(thing) <= MOST_LETTERS:
        return False
    return thing.isascii() and thing.isalpha() and thing.islower()


def plain_copy(thing):
    """A thing alike, of the plain kinds themselves, that shares no list with it."""
    if isinstance(thing, bool):
        return thing
    if isinstance(thing, int):
        return int(thing)
    if isinstance(thing, str):
        return str(thing)
    if isinstance(thing, list):
        return [plain_copy(part) for part in thing]
    if isinstance(thing, tuple):
        return tuple([plain_copy(part) for part in thing])
    return thing
