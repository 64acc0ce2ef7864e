"""The rows that a desk is told."""

from guestcopies.books import MOST_GUESTS
from guestcopies.daytexts import DAY_MINUTES, read_day, read_minute
from guestcopies.errors import NoRow, NoText
from guestcopies.kinds import is_between, is_word
from guestcopies.letters import ANSWER_WORDS, MOST_NUMBER
from guestcopies.lettertexts import read_change
from guestcopies.rules import is_meeting_day
from guestcopies.ruletexts import read_number
from guestcopies.tellings import is_change

# What stands behind the first word of a row, word by word.
FORMS = {
    "tell": ("word",),
    "end": ("word",),
    "invite": ("word", "word"),
    "accept": ("word", "word", "day"),
    "deny": ("word", "word", "day"),
    "calls": ("word",),
    "seat": ("word", "word", "word"),
    "answer": ("word", "word", "word", "day or all", "answer"),
    "offer": ("word", "word", "word", "day", "day", "minute", "length"),
    "wish": ("word", "word", "word"),
    "bring": ("number",),
    "show": ("word",),
    "see": ("word", "word", "word"),
    "versions": ("word", "word", "word"),
    "words": ("word", "day"),
    "offers": ("word",),
    "lost": ("word",),
    "waiting": (),
}
# Rows of a first line and a text.
WITH_TEXT = ("book", "tell")


def checked(holds, thing):
    """The thing where this holds of it, else NoText."""
    if not holds:
        raise NoText(0)
    return thing


def read_meeting_day(word):
    """A day on which a meeting may be."""
    day = read_day(word)
    return checked(is_meeting_day(day), day)


def read_number_to(word, most):
    """A number from 1 to the most."""
    number = read_number(word)
    return checked(is_between(number, 1, most), number)


def read_part(kind, word):
    """What a word is that is to be of a kind; NoText where it isn't."""
    if kind == "day":
        return read_meeting_day(word)
    if kind == "day or all":
        return None if word == "all" else read_meeting_day(word)
    if kind == "answer":
        return checked(word in ANSWER_WORDS, word)
    if kind == "minute":
        return read_minute(word)
    if kind == "length":
        return read_number_to(word, DAY_MINUTES)
    if kind == "number":
        return read_number_to(word, MOST_NUMBER)
    return checked(is_word(word), word)


def read_form(form, words):
    """What these words are, as a tuple; NoText where they haven't this form."""
    checked(len(words) == len(form), words)
    return tuple([read_part(kind, word) for kind, word in zip(form, words)])


def read_book_words(words):
    """The meeting and its unlike guests."""
    names = read_form(["word" for word in words], words)
    guests = names[1:]
    checked(len(names) > 0 and len(guests) <= MOST_GUESTS, names)
    return checked(len(set(guests)) == len(guests), names)


def read_change_words(words):
    """The meeting, the day and its change, None for one that is taken back."""
    change = read_change(words[2:])
    return read_form(("word", "day"), words[:2]) + (checked(change is None or is_change(change), change),)


def read_words(kind, words):
    """What stands behind the first word of a row of a kind; NoText where there is no such row."""
    if kind == "book":
        return read_book_words(words)
    if kind == "change":
        return read_change_words(words)
    checked(kind in FORMS, kind)
    return read_form(FORMS[kind], words)


def read_desk_row(row):
    """The kind of a row, what stands behind it, and the text behind the first line; NoRow where it is none."""
    if not isinstance(row, str):
        raise NoRow("a row is a text")
    line, feed, text = row.partition("\n")
    kind, *words = line.split(" ")
    if (feed != "") != (kind in WITH_TEXT):
        raise NoRow("a line feed too much, or lacking")
    try:
        return (kind, read_words(kind, words), text)
    except NoText:
        raise NoRow("no such row") from None
