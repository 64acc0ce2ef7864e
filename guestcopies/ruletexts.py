"""The texts of rules."""

from guestcopies.daytexts import are_figures, read_day, read_minute, show_day, show_minute
from guestcopies.errors import NoText
from guestcopies.rules import is_rule

WEEKDAY_WORDS = ("mo", "tu", "we", "th", "fr", "sa", "su")
END_WORDS = ("times", "until")
# No number in a text has more.
MOST_FIGURES = 9


def read_number(text):
    """The number whose text this is; NoText where it is that of none."""
    # The length comes first: int() refuses texts of very many figures.
    if len(text) > MOST_FIGURES or not are_figures(text):
        raise NoText(0)
    if text[0] == "0" and text != "0":
        raise NoText(0)
    return int(text)


def read_weekday(word):
    """The weekday of a word; NoText where it is that of none."""
    if word not in WEEKDAY_WORDS:
        raise NoText(0)
    return WEEKDAY_WORDS.index(word)


def read_which(word):
    """Which one of a month's like weekdays is meant by a word."""
    return -1 if word == "last" else read_number(word)


def show_day_in_month(parts):
    """The text of a date, or of which one of a weekday."""
    if len(parts) == 1:
        return f"{parts[0]}"
    which = "last" if parts[0] == -1 else f"{parts[0]}"
    return f"{which} {WEEKDAY_WORDS[parts[1]]}"


def show_how(how):
    """The text of how a meeting comes again."""
    if how[0] == "once":
        return "once"
    text = f"every {how[1]} {how[0]}"
    if how[0] == "days":
        return text
    if how[0] == "weeks":
        words = " ".join([WEEKDAY_WORDS[place] for place in how[2]])
        return f"{text} on {words}"
    return f"{text} on {show_day_in_month(how[2:])}"


def show_end(end):
    """The text of a rule's end."""
    kind, number = end
    return f"until {show_day(number)}" if kind == "until" else f"times {number}"


def show_rule(rule):
    """The text of a rule."""
    first, minute, length, how, end = rule
    text = f"from {show_day(first)} at {show_minute(minute)} for {length} {show_how(how)}"
    return text if end is None else f"{text} {show_end(end)}"


def read_how(words):
    """How a meeting comes again, by these words; NoText where they don't tell it."""
    if words == ["once"]:
        return ("once",)
    if len(words) < 3 or words[0] != "every":
        raise NoText(0)
    number = read_number(words[1])
    if words[2:] == ["days"]:
        return ("days", number)
    if words[2:4] == ["weeks", "on"]:
        return ("weeks", number, tuple([read_weekday(word) for word in words[4:]]))
    if words[2:4] == ["months", "on"] and len(words) == 5:
        return ("months", number, read_number(words[4]))
    if words[2:4] == ["months", "on"] and len(words) == 6:
        return ("months", number, read_which(words[4]), read_weekday(words[5]))
    raise NoText(0)


def read_end(words):
    """The end by these words, perhaps none; NoText where they don't tell one."""
    if not words:
        return None
    kind, number = words
    return (kind, read_day(number) if kind == "until" else read_number(number))


def read_rule(text):
    """The rule whose text this is; NoText where it is that of none."""
    if not isinstance(text, str):
        raise NoText(0)
    words = text.split(" ")
    if words[:5:2] != ["from", "at", "for"]:
        raise NoText(0)
    behind = words[-2:] if words[-2] in END_WORDS else []
    how = read_how(words[6:len(words) - len(behind)])
    rule = (read_day(words[1]), read_minute(words[3]), read_number(words[5]), how, read_end(behind))
    # What was read may still be beyond a bound.
    if not is_rule(rule):
        raise NoText(0)
    return rule
