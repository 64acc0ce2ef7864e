"""Points [16] and [17] of letters and bundles, and the interface's part of guestcopies/lettertexts.py."""

import random
import unittest

from guestcopies.errors import GuestError, NoText
from guestcopies.letters import is_letter
from guestcopies.lettertexts import read_bundle, read_letter, show_bundle, show_letter
from plaintexts import HOWS, plain_letter
from things import MANY_FIGURES, OwnList, OwnText, OwnTuple, OwnWhole, anything, plain_kinds

MOST = 999999999
TELLING = (((0, 60), (5000, -120)), (9198, 540, 60, ("weeks", 1, (0, 3)), None), "room",
           ((9198, ("off",)), (9201, ("is", 9200, 600, 45, "hall"))))
TELLING_ROWS = ["clock 0 60 5000 -120", "from 2026-03-09 at 09:00 for 60 every 1 weeks on mo th", "place room",
                "off 2026-03-09", "is 2026-03-12 2026-03-11 10:00 45 hall"]
CALL_ROWS = ["call standup 1"] + TELLING_ROWS
CALL = ("call", "standup", 1, TELLING)
CALL_TEXT = "\n".join(CALL_ROWS)
PAIRS = (
    (CALL, CALL_TEXT),
    (("call", "a", MOST, TELLING[:3] + ((),)), f"call a {MOST}\n" + "\n".join(TELLING_ROWS[:3])),
    (("day", "standup", 2, 9201, None), "day standup 2 2026-03-12 back"),
    (("day", "standup", MOST, 2, ("off",)), f"day standup {MOST} 2001-01-03 off"),
    (("day", "is", 10, 99990, ("is", 9200, 600, 45, "hall")), "day is 10 2274-10-07 is 2026-03-11 10:00 45 hall"),
    (("day", "off", 1, 9201, ("is", 2, 0, 1, "back")), "day off 1 2026-03-12 is 2001-01-03 00:00 1 back"),
    (("day", "a", 1, 9201, ("is", 99990, 1439, 1440, "abcdefgh")),
     "day a 1 2026-03-12 is 2274-10-07 23:59 1440 abcdefgh"),
    (("end", "standup", 3), "end standup 3"), (("end", "end", MOST), f"end end {MOST}"),
    (("denied", "standup", "ann", "phone", 4), "denied standup ann phone 4"),
    (("denied", "a", "b", "c", MOST), f"denied a b c {MOST}"),
    (("answer", "standup", "ann", "phone", 5, 2, 9201, "yes"), "answer standup ann phone 5 2 2026-03-12 yes"),
    (("answer", "standup", "ann", "phone", MOST, 1, None, "no"), f"answer standup ann phone {MOST} 1 all no"),
    (("answer", "all", "all", "all", 1, MOST, None, "perhaps"), f"answer all all all 1 {MOST} all perhaps"),
    (("answer", "a", "b", "c", 1, 1, 2, "perhaps"), "answer a b c 1 1 2001-01-03 perhaps"),
    (("offer", "standup", "ann", "phone", 6, 2, 9201, (9202, 600, 45)),
     "offer standup ann phone 6 2 2026-03-12 2026-03-13 10:00 45"),
    (("offer", "a", "b", "c", MOST, MOST, 2, (99990, 1439, 1440)),
     f"offer a b c {MOST} {MOST} 2001-01-03 2274-10-07 23:59 1440"),
    (("wish", "standup", "ann"), "wish standup ann"), (("wish", "abcdefgh", "z"), "wish abcdefgh z"),
)
# One of each kind, and of each kind of change.
SOME_TEXTS = [PAIRS[place][1] for place in (0, 2, 3, 4, 7, 9, 11, 12, 15, 17)]
END, END_TEXT = ("end", "standup", 3), "end standup 3"
SIGNS = [chr(code) for code in range(32, 127) if code != 37]


def goes_on(rows):
    """Whether a letter's text has these rows as its first ones: they are one, or a call's that lacks rows."""
    return plain_letter(rows) is not None or plain_letter(rows + TELLING_ROWS[len(rows) - 1:3]) is not None


def plain_row(rows):
    """The first row that is wrong in a letter's text; None where all is right."""
    for many in range(1, len(rows) + 1):
        if not goes_on(rows[:many]):
            return many - 1
    return None if plain_letter(rows) is not None else len(rows)


def plain_bundle_row(text):
    """The first row that is wrong in a bundle's text; None where all is right."""
    if text == "":
        return None
    rows, part, whole = text.split("\n"), [], 0
    for at, row in enumerate(rows):
        if row == "":
            if plain_letter(part) is None:
                return at
            part, whole = [], whole + 1
        else:
            part.append(row)
            if whole == 200 or not goes_on(part):
                return at
    return None if plain_letter(part) is not None else len(rows)


class ShownAndRead(unittest.TestCase):

    def test_shown(self):
        for letter, text in PAIRS:
            self.assertTrue(is_letter(letter), letter)
            self.assertEqual(show_letter(letter), text)

    def test_read_back(self):
        for letter, text in PAIRS:
            self.assertEqual(read_letter(text), letter)
            self.assertEqual(plain_letter(text.split("\n")), letter)

    def test_calls_with_rules_and_clocks_of_each_kind(self):
        clock = tuple((1000 * step, 20 - step) for step in range(40))
        row = "clock " + " ".join(f"{1000 * step} {20 - step}" for step in range(40))
        for how, text in HOWS:
            letter = ("call", "a", 7, (clock, (9198, 425, 60, how, ("times", 5)), "room", ()))
            text = f"call a 7\n{row}\nfrom 2026-03-09 at 07:05 for 60 {text} times 5\nplace room"
            self.assertEqual(show_letter(letter), text)
            self.assertEqual(read_letter(text), letter)

    def test_a_call_with_a_hundred_changes(self):
        rule = (9198, 540, 60, ("days", 1), None)
        for change in (("off",), ("is", 2, 0, 1, "a")):
            telling = (TELLING[0], rule, "room", tuple((9198 + step, change) for step in range(100)))
            text = show_letter(("call", "a", 1, telling))
            self.assertEqual(len(text.split("\n")), 104)
            self.assertEqual(read_letter(text), ("call", "a", 1, telling))


class Refusing(unittest.TestCase):

    def refused_by(self, read, text, row):
        with self.assertRaises(NoText, msg=repr(text)[:300]) as caught:
            read(text)
        self.assertIs(type(caught.exception), NoText)
        self.assertIsInstance(caught.exception, GuestError)
        self.assertEqual(caught.exception.row, row, repr(text)[:300])
        self.assertIs(type(caught.exception.row), int)


class RefusedLetters(Refusing):

    def refused(self, text, row):
        self.refused_by(read_letter, text, row)

    def compared(self, text):
        row = plain_row(text.split("\n"))
        if row is None:
            self.assertEqual(show_letter(read_letter(text)), text)
        else:
            self.refused(text, row)

    def test_a_sign_put_in_left_out_and_changed(self):
        for text in SOME_TEXTS:
            for at in range(len(text) + 1):
                self.compared(text[:at] + text[at + 1:])
                for sign in SIGNS[at % 5::5] + ["\n", " ", "0", "-", "a"]:
                    self.compared(text[:at] + sign + text[at:])
                    self.compared(text[:at] + sign + text[at + 1:])

    def test_a_word_more_fewer_twice_or_another_one(self):
        some = ["", "0", "1", "01", "1000000000", "999999999", "-1", "call", "end", "back", "off", "is", "all", "yes", "Yes",
                "abcdefghi", "2026-03-10", "2001-01-02", "2274-10-08", "10:00", "24:00", "1441"]
        for text in SOME_TEXTS:
            row, feed, rest = text.partition("\n")
            words = row.split(" ")
            for at in range(len(words) + 1):
                self.compared(" ".join(words[:at] + words[at + 1:]) + feed + rest)
                self.compared(" ".join(words[:at] + words[at:at + 1] + words[at:]) + feed + rest)
                for word in some:
                    self.compared(" ".join(words[:at] + [word] + words[at:]) + feed + rest)
                    self.compared(" ".join(words[:at] + [word] + words[at + 1:]) + feed + rest)

    def test_words_exchanged(self):
        for text in SOME_TEXTS:
            words = text.split(" ")
            for one in range(len(words)):
                for other in range(one):
                    mixed = list(words)
                    mixed[one], mixed[other] = words[other], words[one]
                    self.compared(" ".join(mixed))

    def test_rows_of_calls(self):
        for place in range(len(CALL_ROWS) + 1):
            self.compared("\n".join(CALL_ROWS[:place] + CALL_ROWS[place + 1:]))
            self.compared("\n".join(CALL_ROWS[:place] + CALL_ROWS[place:place + 1] + CALL_ROWS[place:]))
            self.compared("\n".join(CALL_ROWS[:place]))
            for row in ("", " ", "x", END_TEXT, "off 2026-03-19", "off 2026-03-10", "call standup 1"):
                self.compared("\n".join(CALL_ROWS[:place] + [row] + CALL_ROWS[place:]))
                self.compared("\n".join(CALL_ROWS[:place] + [row] + CALL_ROWS[place + 1:]))
            for other in range(place):
                mixed = list(CALL_ROWS)
                if place < len(mixed):
                    mixed[place], mixed[other] = mixed[other], mixed[place]
                    self.compared("\n".join(mixed))

    def test_the_rows_of_a_call_by_hand(self):
        self.refused("call standup 1", 1)
        self.refused("call standup 1\n", 1)
        self.refused("call standup 1\nclock 0 60", 2)
        self.refused("\n".join(CALL_ROWS[:3]), 3)
        self.refused("call standup 1\nclock 0 60\n", 2)
        self.refused(CALL_TEXT + "\n", 6)
        self.refused(CALL_TEXT + "\noff 2026-03-12", 6)
        self.refused("\n".join(CALL_ROWS[:4] + ["is 2026-03-09 2026-03-09 09:00 60 room"]), 4)
        for row in ("call standup", "call standup 0", "call standup 01", "call standup 1000000000", "call standup -1", "call",
                    "call standup 1 ", "call Standup 1", "call standup 1 1", "call 1 standup", "call abcdefghi 1", "call  1",
                    " call standup 1", "calls standup 1", "Call standup 1", "call standup x"):
            self.refused("\n".join([row] + TELLING_ROWS), 0)
            self.refused(row, 0)

    def test_the_hundred_and_first_change(self):
        rule = (9198, 540, 60, ("days", 1), None)
        telling = (TELLING[0], rule, "room", tuple((9198 + step, ("off",)) for step in range(101)))
        self.refused(show_letter(("call", "a", 1, telling)), 104)

    def test_a_row_behind_a_letter_of_one_row(self):
        for text in SOME_TEXTS[1:]:
            for more in ("", END_TEXT, "x", "\n", TELLING_ROWS[0], "\n".join(TELLING_ROWS)):
                self.refused(text + "\n" + more, 1)
            self.refused("\n" + text, 0)
            self.refused("x\n" + text, 0)

    def test_no_signs_at_all(self):
        for text in ("", "\n", "\n\n", " "):
            self.refused(text, 0)

    def test_numbers_of_very_many_figures(self):
        for many in (MANY_FIGURES, "9" * 4301, "-" + MANY_FIGURES, "0" * 5000):
            for text in SOME_TEXTS:
                rows = text.split("\n")
                for place, row in enumerate(rows):
                    words = row.split(" ")
                    for at in range(len(words)):
                        other = " ".join(words[:at] + [many] + words[at + 1:])
                        self.refused("\n".join(rows[:place] + [other] + rows[place + 1:]), place)

    def test_what_is_no_text(self):
        for thing in (END, CALL, [END_TEXT], (END_TEXT,), END_TEXT.encode(), END_TEXT.split(" "), None, True, 0):
            self.refused(thing, 0)

    def test_anything(self):
        for thing, same in zip(anything(), anything()):
            self.refused(thing, 0)
            self.assertEqual(thing, same)


class Bundles(Refusing):

    def refused(self, text, row):
        self.refused_by(read_bundle, text, row)

    def compared(self, text):
        row = plain_bundle_row(text)
        if row is None:
            self.assertEqual(show_bundle(read_bundle(text)), text)
        else:
            self.refused(text, row)

    def test_of_none_one_and_more(self):
        self.assertEqual(show_bundle([]), "")
        self.assertEqual(read_bundle(""), [])
        for letter, text in PAIRS:
            self.assertEqual(show_bundle([letter]), text)
            self.assertEqual(read_bundle(text), [letter])
        letters = [letter for letter, text in PAIRS]
        text = "\n\n".join([text for letter, text in PAIRS])
        self.assertEqual(show_bundle(letters), text)
        self.assertEqual(read_bundle(text), letters)
        self.assertEqual(read_bundle(f"{END_TEXT}\n\n{END_TEXT}"), [END, END])

    def test_two_hundred_letters(self):
        for some in ([END] * 200, [CALL] * 200, [pair[0] for pair in PAIRS] * 10 + [END] * 10):
            self.assertEqual(len(some), 200)
            self.assertEqual(read_bundle(show_bundle(some)), some)

    def test_the_first_row_of_the_two_hundred_and_first(self):
        text = show_bundle([END] * 200)
        self.refused(text + "\n\n" + END_TEXT, 400)
        self.refused(text + "\n\n" + CALL_TEXT, 400)
        self.refused(text + "\n\nx", 400)
        self.refused(text + "\n\n\n" + END_TEXT, 400)
        self.refused(text + "\n\n", 400)
        self.refused(text + "\n", 400)
        self.refused(text + "\n" + END_TEXT, 399)
        calls = show_bundle([CALL] * 200)
        self.refused(calls + "\n\n" + END_TEXT, 200 * 7)
        self.refused(calls + "\n\n" + END_TEXT + "\n\n" + END_TEXT, 200 * 7)

    def test_one_line_feed_at_the_end(self):
        self.refused(END_TEXT + "\n", 2)
        self.refused(CALL_TEXT + "\n", 7)
        self.refused(f"{END_TEXT}\n\n{CALL_TEXT}\n", 9)

    def test_rows_without_signs_where_no_letter_ended(self):
        self.refused("\n", 0)
        self.refused("\n\n", 0)
        self.refused("\n" + END_TEXT, 0)
        self.refused("\n\n" + END_TEXT, 0)
        self.refused(END_TEXT + "\n\n", 2)
        self.refused(END_TEXT + "\n\n\n", 2)
        self.refused(f"{END_TEXT}\n\n\n{END_TEXT}", 2)
        self.refused(f"{END_TEXT}\n\n\n\n{END_TEXT}", 2)
        self.refused(f"call standup 1\n\n{END_TEXT}", 1)
        self.refused("\n".join(CALL_ROWS[:3]) + f"\n\n{END_TEXT}", 3)
        self.refused("call standup 1\n", 1)

    def test_a_last_letter_that_isnt_whole(self):
        for many in (1, 2, 3):
            self.refused("\n".join(CALL_ROWS[:many]), many)
            self.refused(END_TEXT + "\n\n" + "\n".join(CALL_ROWS[:many]), 2 + many)

    def test_rows_that_are_wrong_in_their_letters(self):
        self.refused(f"{END_TEXT}\n{END_TEXT}", 1)
        self.refused(f"{END_TEXT}\n\nx\n\n{END_TEXT}", 2)
        self.refused(f"{END_TEXT}\n \n{END_TEXT}", 1)
        self.refused(f"{CALL_TEXT}\n{END_TEXT}", 6)
        self.refused(f"{CALL_TEXT}\n\n{CALL_TEXT}\nx\n\ny", 13)
        self.refused(" ", 0)

    def test_rows_put_in_left_out_and_exchanged(self):
        text = f"{END_TEXT}\n\n{CALL_TEXT}\n\nwish standup ann\n\n{CALL_TEXT}\n\n{END_TEXT}"
        rows = text.split("\n")
        for place in range(len(rows) + 1):
            self.compared("\n".join(rows[:place] + rows[place + 1:]))
            self.compared("\n".join(rows[:place]))
            self.compared("\n".join(rows[place:]))
            for row in ("", " ", "x", END_TEXT, "off 2026-03-19", "call standup 1"):
                self.compared("\n".join(rows[:place] + [row] + rows[place:]))
                self.compared("\n".join(rows[:place] + [row] + rows[place + 1:]))
            for other in range(place):
                mixed = list(rows)
                if place < len(rows):
                    mixed[place], mixed[other] = mixed[other], mixed[place]
                    self.compared("\n".join(mixed))

    def test_signs_put_in_left_out_and_changed(self):
        text = f"{END_TEXT}\n\n{CALL_TEXT}\n\nwish standup ann"
        for at in range(len(text) + 1):
            self.compared(text[:at] + text[at + 1:])
            for sign in ["\n", "\n\n", " ", "0", "a", SIGNS[at % len(SIGNS)]]:
                self.compared(text[:at] + sign + text[at:])
                self.compared(text[:at] + sign + text[at + 1:])

    def test_drawn_rows(self):
        chance = random.Random(17)
        some = ["", "", "", END_TEXT, "wish standup ann", "x"] + CALL_ROWS[:4]
        for again in range(3000):
            self.compared("\n".join(chance.choice(some) for step in range(chance.randint(1, 7))))

    def test_numbers_of_very_many_figures(self):
        self.refused(MANY_FIGURES, 0)
        self.refused(f"{END_TEXT}\n\nend standup {MANY_FIGURES}", 2)

    def test_what_is_no_text(self):
        for thing in ([], [END], [END_TEXT], (), END, END_TEXT.encode(), None, True, False, 0):
            self.refused(thing, 0)

    def test_anything(self):
        for thing, same in zip(anything(), anything()):
            if thing != "":
                self.refused(thing, 0)
            self.assertEqual(thing, same)


class PlainAndTheSame(unittest.TestCase):

    def own(self, thing):
        if isinstance(thing, (tuple, list)):
            return (OwnTuple if isinstance(thing, tuple) else OwnList)(self.own(part) for part in thing)
        return None if thing is None else OwnText(thing) if isinstance(thing, str) else OwnWhole(thing)

    def test_what_is_told_is_of_the_plain_kinds(self):
        for letter, text in PAIRS:
            told = [show_letter(self.own(letter)), read_letter(OwnText(text)), read_letter(text)]
            self.assertEqual(told, [text, letter, letter])
            self.assertTrue(plain_kinds(told))
        letters = [letter for letter, text in PAIRS]
        told = [show_bundle(self.own(letters)), read_bundle(OwnText(show_bundle(letters))), read_bundle(OwnText(""))]
        self.assertEqual(told, [show_bundle(letters), letters, []])
        self.assertTrue(plain_kinds(told))

    def test_a_told_list_that_is_changed(self):
        for text, letters in (("", []), (END_TEXT, [END])):
            told = read_bundle(text)
            told.append(5)
            self.assertEqual(read_bundle(text), letters)

    def test_what_was_handed_in_stays_as_it_was(self):
        letters = [letter for letter, text in PAIRS]
        show_bundle(letters)
        self.assertEqual(letters, [letter for letter, text in PAIRS])

    def test_more_than_two_hundred_are_shown_without_an_error(self):
        self.assertEqual(show_bundle([END] * 201), "\n\n".join([END_TEXT] * 201))


if __name__ == "__main__":
    unittest.main()
