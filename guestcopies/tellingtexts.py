"""The texts of tellings."""

from guestcopies.clocks import is_clock
from guestcopies.daytexts import read_day, read_minute, show_day, show_minute
from guestcopies.errors import NoText
from guestcopies.kinds import is_word
from guestcopies.ruledays import ended_by_day
from guestcopies.ruletexts import read_number, read_rule, show_rule
from guestcopies.tellings import MOST_CHANGES, is_day_with_change

# The clock's, the rule's and the place's.
ROWS_AHEAD = 3


def show_clock(clock):
    """The row of a clock."""
    return " ".join(["clock"] + [f"{moment} {offset}" for moment, offset in clock])


def show_slot(slot):
    """The text of a day, a minute and a length."""
    day, minute, length = slot
    return f"{show_day(day)} {show_minute(minute)} {length}"


def show_day_with_change(day, change):
    """The row of a day's change."""
    if change[0] == "off":
        return f"off {show_day(day)}"
    return f"is {show_day(day)} {show_slot(change[1:4])} {change[4]}"


def show_telling(telling):
    """The text of a telling."""
    clock, rule, place, changes = telling
    rows = [show_clock(clock), show_rule(rule), f"place {place}"]
    rows += [show_day_with_change(day, change) for day, change in changes]
    return "\n".join(rows)


def read_offset(word):
    """The offset whose text this is; NoText where it is that of none."""
    if word[:1] != "-":
        return read_number(word)
    if word == "-0":
        raise NoText(0)
    return -read_number(word[1:])


def read_clock(row):
    """The clock of a row; NoText where it has none."""
    head, *words = row.split(" ")
    if head != "clock" or len(words) % 2 != 0:
        raise NoText(0)
    clock = tuple([(read_number(moment), read_offset(offset)) for moment, offset in zip(words[::2], words[1::2])])
    if not is_clock(clock):
        raise NoText(0)
    return clock


def read_place(row):
    """The place of a row; NoText where it has none."""
    head, blank, place = row.partition(" ")
    if head != "place" or not is_word(place):
        raise NoText(0)
    return place


def read_slot(words):
    """The day, the minute and the length of three words; NoText where they have none."""
    day, minute, length = words
    return (read_day(day), read_minute(minute), read_number(length))


def read_day_with_change(row):
    """The day and the change of a row, perhaps beyond their bounds; NoText where it has none."""
    words = row.split(" ")
    if words[0] == "off" and len(words) == 2:
        return (read_day(words[1]), ("off",))
    if words[0] == "is" and len(words) == 6:
        return (read_day(words[1]), ("is",) + read_slot(words[2:5]) + (words[5],))
    raise NoText(0)


def read_row(read, rows, place):
    """What a row is read as; NoText, with its number, where it is wrong or lacking."""
    if place == len(rows):
        raise NoText(place)
    try:
        return read(rows[place])
    except NoText:
        raise NoText(place) from None


def read_changes(rule, place, rows):
    """The changes of a telling's rows behind those of its rule and place."""
    ended = ended_by_day(rule)
    changes = []
    for at in range(ROWS_AHEAD, len(rows)):
        change = read_row(read_day_with_change, rows, at)
        if len(changes) == MOST_CHANGES or not is_day_with_change(ended, place, change):
            raise NoText(at)
        if changes and changes[-1][0] >= change[0]:
            raise NoText(at)
        changes.append(change)
    return tuple(changes)


def read_telling(text):
    """The telling whose text this is; NoText, with the first row that is wrong, where it is that of none."""
    if not isinstance(text, str):
        raise NoText(0)
    rows = text.split("\n")
    clock = read_row(read_clock, rows, 0)
    rule = read_row(read_rule, rows, 1)
    place = read_row(read_place, rows, 2)
    return (clock, rule, place, read_changes(rule, place, rows))
