"""The texts of letters, and of bundles of them."""

from guestcopies.daytexts import read_day, show_day
from guestcopies.errors import NoText
from guestcopies.kinds import is_word
from guestcopies.letters import is_letter, is_number
from guestcopies.ruletexts import read_number
from guestcopies.tellingtexts import read_slot, read_telling, show_slot, show_telling

MOST_IN_BUNDLE = 200


def show_change(change):
    """The text of a change, or of one that is taken back."""
    if change is None:
        return "back"
    if change[0] == "off":
        return "off"
    return f"is {show_slot(change[1:4])} {change[4]}"


def show_parts(parts):
    """The text of words and numbers."""
    return " ".join([f"{part}" for part in parts])


def show_letter(letter):
    """The text of a letter."""
    kind = letter[0]
    if kind == "call":
        return f"{show_parts(letter[:3])}\n{show_telling(letter[3])}"
    if kind == "day":
        return f"{show_parts(letter[:3])} {show_day(letter[3])} {show_change(letter[4])}"
    if kind == "answer":
        days = "all" if letter[6] is None else show_day(letter[6])
        return f"{show_parts(letter[:6])} {days} {letter[7]}"
    if kind == "offer":
        return f"{show_parts(letter[:6])} {show_day(letter[6])} {show_slot(letter[7])}"
    return show_parts(letter)


def show_bundle(letters):
    """The text of a bundle of letters."""
    return "\n\n".join([show_letter(letter) for letter in letters])


def read_change(words):
    """The change of these words, None for one that is taken back; NoText where they tell none."""
    if words == ["back"]:
        return None
    if words == ["off"]:
        return ("off",)
    if len(words) != 5 or words[0] != "is":
        raise NoText(0)
    return ("is",) + read_slot(words[1:4]) + (words[4],)


def read_reply_head(words):
    """What answers and offers begin with alike, of their first six words."""
    return tuple(words[:4]) + (read_number(words[4]), read_number(words[5]))


def read_parts(words):
    """The letter of a row's words, perhaps with things beyond their bounds; NoText where they have none."""
    kind, many = words[0], len(words)
    if kind == "day" and many > 4:
        return (kind, words[1], read_number(words[2]), read_day(words[3]), read_change(words[4:]))
    if kind == "end" and many == 3:
        return (kind, words[1], read_number(words[2]))
    if kind == "denied" and many == 5:
        return tuple(words[:4]) + (read_number(words[4]),)
    if kind == "answer" and many == 8:
        day = None if words[6] == "all" else read_day(words[6])
        return read_reply_head(words) + (day, words[7])
    if kind == "offer" and many == 10:
        return read_reply_head(words) + (read_day(words[6]), read_slot(words[7:]))
    if kind == "wish" and many == 3:
        return tuple(words)
    raise NoText(0)


def read_call(words, rest):
    """The call of its first row's words and the text behind that row."""
    if len(words) != 3 or not is_word(words[1]):
        raise NoText(0)
    version = read_number(words[2])
    if not is_number(version):
        raise NoText(0)
    try:
        return ("call", words[1], version, read_telling(rest))
    except NoText as wrong:
        raise NoText(wrong.row + 1) from None


def read_letter(text):
    """The letter whose text this is; NoText, with the first row that is wrong, where it is that of none."""
    if not isinstance(text, str):
        raise NoText(0)
    row, feed, rest = text.partition("\n")
    words = row.split(" ")
    if words[0] == "call":
        return read_call(words, rest)
    letter = read_parts(words)
    if not is_letter(letter):
        raise NoText(0)
    if feed:
        raise NoText(1)
    return letter


def cut_at_empty_rows(rows):
    """The rows of each letter, as a list of lists."""
    parts = [[]]
    for row in rows:
        if row:
            parts[-1].append(row)
        else:
            parts.append([])
    return parts


def read_bundle(text):
    """The letters whose text this is; NoText, with the first row that is wrong, where it is that of none."""
    if not isinstance(text, str):
        raise NoText(0)
    letters = []
    if not text:
        return letters
    begin = 0
    for rows in cut_at_empty_rows(text.split("\n")):
        if len(letters) == MOST_IN_BUNDLE:
            raise NoText(begin)
        try:
            letters.append(read_letter("\n".join(rows)))
        except NoText as wrong:
            raise NoText(begin + wrong.row) from None
        begin += len(rows) + 1
    return letters
