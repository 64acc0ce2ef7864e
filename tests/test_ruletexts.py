"""Point [10], and the interface's part of guestcopies/ruletexts.py."""

import unittest

from guestcopies.errors import GuestError, NoText
from guestcopies.ruletexts import read_rule, show_rule
from plaintexts import HOWS, WEEKDAY_WORDS, plain_reading
from things import MANY_FIGURES, OwnText, OwnTuple, OwnWhole, anything, plain_kinds

ENDS = (
    (None, ""), (("times", 1), " times 1"), (("times", 1000), " times 1000"), (("until", 9198), " until 2026-03-09"),
    (("until", 99990), " until 2274-10-07"), (("until", 9218), " until 2026-03-29"),
)
BEGINS = (
    ((9198, 425, 60), "from 2026-03-09 at 07:05 for 60 "), ((2, 0, 1), "from 2001-01-03 at 00:00 for 1 "),
    ((9198, 1439, 1440), "from 2026-03-09 at 23:59 for 1440 "), ((99990, 600, 5), "from 2274-10-07 at 10:00 for 5 "),
)
PAIRS = [(begin + (how, end), begin_text + how_text + end_text) for begin, begin_text in BEGINS
         for how, how_text in HOWS for end, end_text in ENDS
         if end is None or end[0] == "times" or end[1] >= begin[0]]
SOME_TEXTS = (
    "from 2026-03-09 at 07:05 for 60 once", "from 2026-03-09 at 07:05 for 60 every 12 days until 2027-01-31",
    "from 2026-03-09 at 07:05 for 60 every 2 weeks on mo we fr times 10",
    "from 2026-03-09 at 07:05 for 60 every 1 months on 15 times 7",
    "from 2026-03-09 at 07:05 for 60 every 3 months on last fr until 2026-12-31",
)
SIGNS = [chr(code) for code in range(32, 127) if code != 37] + ["\n"]


class ShownAndRead(unittest.TestCase):

    def test_shown(self):
        for rule, text in PAIRS:
            self.assertEqual(show_rule(rule), text)

    def test_read_back(self):
        for rule, text in PAIRS:
            self.assertEqual(read_rule(text), rule)
            self.assertEqual(plain_reading(text), rule)

    def test_the_weekdays_words(self):
        for place, word in enumerate(WEEKDAY_WORDS):
            rule = (9198, 0, 1, ("weeks", 1, (place,)), None)
            self.assertEqual(show_rule(rule), f"from 2026-03-09 at 00:00 for 1 every 1 weeks on {word}")
            self.assertEqual(read_rule(show_rule(rule)), rule)


class Refused(unittest.TestCase):

    def refused(self, text):
        with self.assertRaises(NoText, msg=repr(text)[:200]) as caught:
            read_rule(text)
        self.assertIs(type(caught.exception), NoText)
        self.assertIsInstance(caught.exception, GuestError)
        self.assertEqual(caught.exception.row, 0)
        self.assertIs(type(caught.exception.row), int)

    def compared(self, text):
        """Read as one pattern for the whole text reads it, or refused."""
        rule = plain_reading(text)
        if rule is None:
            self.refused(text)
        else:
            self.assertEqual(read_rule(text), rule)
            self.assertEqual(show_rule(rule), text)

    def test_a_sign_put_in_left_out_and_changed(self):
        for text in SOME_TEXTS:
            for place in range(len(text) + 1):
                self.compared(text[:place] + text[place + 1:])
                for sign in SIGNS:
                    self.compared(text[:place] + sign + text[place:])
                    self.compared(text[:place] + sign + text[place + 1:])

    def test_a_word_more_fewer_twice_or_another_one(self):
        words_of_all = sorted({word for text in SOME_TEXTS for word in text.split(" ")}) + [
            "", "0", "tu", "su", "1000", "1001", "1440", "1441", "00:00", "24:00", "2001-01-02", "2274-10-08", "Mo"]
        for text in SOME_TEXTS:
            words = text.split(" ")
            for place in range(len(words) + 1):
                self.compared(" ".join(words[:place] + words[place + 1:]))
                self.compared(" ".join(words[:place] + words[place:place + 1] + words[place:]))
                for word in words_of_all:
                    self.compared(" ".join(words[:place] + [word] + words[place:]))
                    self.compared(" ".join(words[:place] + [word] + words[place + 1:]))

    def test_words_exchanged(self):
        for text in SOME_TEXTS:
            words = text.split(" ")
            for one in range(len(words)):
                for other in range(one):
                    mixed = list(words)
                    mixed[one], mixed[other] = words[other], words[one]
                    self.compared(" ".join(mixed))

    def test_texts_cut_off(self):
        for text in SOME_TEXTS:
            for place in range(len(text)):
                self.compared(text[:place])
                self.compared(text[place + 1:])

    def test_numbers_at_and_beyond_their_bounds(self):
        begin = "from 2026-03-09 at 07:05 for "
        for number, right in (("1", True), ("1440", True), ("0", False), ("1441", False), ("01", False), ("060", False),
                              ("-1", False), ("+1", False), ("1.0", False), ("1_0", False), ("x", False), ("", False)):
            self.assertEqual(plain_reading(f"{begin}{number} once") is not None, right)
            self.compared(f"{begin}{number} once")
        for number in ("0", "1", "99", "100", "01", "00", "-1", "1000000000", "12345678901234567890"):
            for how in ("days", "weeks on mo", "months on 1", "months on 1 mo", "months on last mo"):
                self.compared(f"{begin}60 every {number} {how}")
        for number in ("0", "1", "5", "6", "05", "31", "32", "-1", "last", "first", "031"):
            self.compared(f"{begin}60 every 1 months on {number}")
            self.compared(f"{begin}60 every 1 months on {number} mo")
        for number in ("0", "1", "1000", "1001", "01", "0001", "-1", "last"):
            self.compared(f"{begin}60 once times {number}")
            self.compared(f"{begin}60 every 1 months on 5 times {number}")

    def test_weekdays_that_do_not_rise(self):
        for words in ("mo mo", "tu mo", "mo we tu", "su mo", "mo tu we th fr sa su mo", "Mo", "mon", "mo,tu", "mo  tu",
                      "", "0", "last mo", "1 mo"):
            self.refused(f"from 2026-03-09 at 07:05 for 60 every 1 weeks on {words}")

    def test_dates_and_minutes_that_are_none(self):
        for day in ("2026-02-29", "2026-13-01", "2026-00-01", "2026-03-00", "2026-03-32", "2026-3-9", "2000-12-31",
                    "2001-01-01", "2001-01-02", "2274-10-08", "2274-10-16", "2274-10-17", "9999-01-01", "today", "9198"):
            self.refused(f"from {day} at 07:05 for 60 once")
            self.refused(f"from 2026-03-09 at 07:05 for 60 once until {day}")
        for minute in ("24:00", "23:60", "7:05", "07:5", "0705", "07:05:00", "-1:00", "425"):
            self.refused(f"from 2026-03-09 at {minute} for 60 once")

    def test_an_end_day_ahead_of_first(self):
        self.refused("from 2026-03-09 at 07:05 for 60 every 1 days until 2026-03-08")
        self.compared("from 2026-03-09 at 07:05 for 60 every 1 days until 2026-03-09")

    def test_two_ends(self):
        for ends in ("times 3 times 3", "times 3 until 2026-12-31", "until 2026-12-31 times 3", "times until 2026-12-31",
                     "times", "until", "times 2026-12-31", "until 3", "times 3 ", "until"):
            self.refused(f"from 2026-03-09 at 07:05 for 60 every 1 days {ends}")
            self.refused(f"from 2026-03-09 at 07:05 for 60 {ends}")

    def test_blanks_and_line_feeds(self):
        for text in SOME_TEXTS:
            for wrong in (" " + text, text + " ", "\n" + text, text + "\n", text.replace(" ", "  "),
                          text.replace(" ", "\n"), text.replace(" ", "\t"), text.upper(), text + "\n" + text,
                          text.replace(" ", "\u00a0"), text.replace("6", "\u0666")):
                self.refused(wrong)

    def test_numbers_of_very_many_figures(self):
        for many in (MANY_FIGURES, "1" * 4301, "9" * 20000, "0" * 5000, "0" * 5000 + "1", "-" + MANY_FIGURES):
            for text in SOME_TEXTS:
                words = text.split(" ")
                for place in range(len(words)):
                    self.refused(" ".join(words[:place] + [many] + words[place + 1:]))
            self.refused(many)

    def test_what_is_no_text(self):
        for thing in (SOME_TEXTS[0].encode(), [SOME_TEXTS[0]], (SOME_TEXTS[0],), SOME_TEXTS[0].split(" "), None, True, 5,
                      (9198, 425, 60, ("once",), None)):
            self.refused(thing)

    def test_anything(self):
        for thing, same in zip(anything(), anything()):
            self.refused(thing)
            self.assertEqual(thing, same)


class PlainAndTheSame(unittest.TestCase):

    def test_what_is_told_is_of_the_plain_kinds(self):
        for rule, text in PAIRS:
            told = [read_rule(OwnText(text)), read_rule(text), show_rule(rule)]
            self.assertTrue(plain_kinds(told))
        how = OwnTuple([OwnText("weeks"), OwnWhole(2), OwnTuple([OwnWhole(0), OwnWhole(3)])])
        rule = OwnTuple([OwnWhole(9198), OwnWhole(0), OwnWhole(5), how, OwnTuple([OwnText("times"), OwnWhole(7)])])
        self.assertIs(type(show_rule(rule)), str)
        self.assertEqual(show_rule(rule), "from 2026-03-09 at 00:00 for 5 every 2 weeks on mo th times 7")
        self.assertIs(type(show_rule((9198, 0, 5, (OwnText("once"),), None))), str)

    def test_who_asks_again_is_told_the_same(self):
        for text in SOME_TEXTS + SOME_TEXTS:
            self.assertEqual(show_rule(read_rule(text)), text)


if __name__ == "__main__":
    unittest.main()
