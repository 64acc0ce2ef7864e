"""Letters: the caller's, and the guests'."""

from guestcopies.kinds import is_between, is_word
from guestcopies.rules import is_meeting_day, is_slot
from guestcopies.tellings import is_change, is_telling

MOST_NUMBER = 999999999
ANSWER_WORDS = ("yes", "no", "perhaps")


def is_number(thing):
    """Whether a thing is a version, or the number of an answer or an offer."""
    return is_between(thing, 1, MOST_NUMBER)


def are_words(parts):
    """Whether each of these is a word."""
    return all([is_word(part) for part in parts])


def is_call(letter):
    """Whether this is a call, but for its kind."""
    return len(letter) == 4 and is_word(letter[1]) and is_number(letter[2]) and is_telling(letter[3])


def is_day_letter(letter):
    """Whether this is the letter of a day's change, but for its kind."""
    if len(letter) != 5 or not is_word(letter[1]) or not is_number(letter[2]):
        return False
    return is_meeting_day(letter[3]) and (letter[4] is None or is_change(letter[4]))


def is_end_letter(letter):
    """Whether this is an end letter, but for its kind."""
    return len(letter) == 3 and is_word(letter[1]) and is_number(letter[2])


def is_denied_letter(letter):
    """Whether this is a denied letter, but for its kind."""
    return len(letter) == 5 and are_words(letter[1:4]) and is_number(letter[4])


def is_reply(letter):
    """Whether this has what answers and offers have alike, but for its kind."""
    return len(letter) == 8 and are_words(letter[1:4]) and is_number(letter[4]) and is_number(letter[5])


def is_answer(letter):
    """Whether this is an answer, but for its kind."""
    if not is_reply(letter) or letter[7] not in ANSWER_WORDS:
        return False
    return letter[6] is None or is_meeting_day(letter[6])


def is_offer(letter):
    """Whether this is an offer, but for its kind."""
    return is_reply(letter) and is_meeting_day(letter[6]) and is_slot(letter[7])


def is_wish(letter):
    """Whether this is a wish, but for its kind."""
    return len(letter) == 3 and are_words(letter[1:])


KINDS = {
    "call": is_call,
    "day": is_day_letter,
    "end": is_end_letter,
    "denied": is_denied_letter,
    "answer": is_answer,
    "offer": is_offer,
    "wish": is_wish,
}


def is_letter(thing):
    """Whether a thing is a letter."""
    if not isinstance(thing, tuple) or not thing:
        return False
    kind = thing[0]
    if not isinstance(kind, str) or kind not in KINDS:
        return False
    check = KINDS[kind]
    return check(thing)
