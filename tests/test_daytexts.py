"""Point [5], and the interface's part of guestcopies/daytexts.py."""

import unittest

from guestcopies.daytexts import read_day, read_time, show_day, show_time
from guestcopies.errors import GuestError, NoText
from things import OwnText, OwnWhole, anything, plain_kinds

LAST_DAY = 99999
LAST_TIME = 143999999
DAYS = ((0, "2001-01-01"), (9198, "2026-03-09"), (1154, "2004-02-29"), (LAST_DAY, "2274-10-16"))
TIMES = (
    (0, "2001-01-01 00:00"), (1439, "2001-01-01 23:59"), (1440, "2001-01-02 00:00"),
    (1440 * 9198 + 425, "2026-03-09 07:05"), (1440 * 9198 + 60, "2026-03-09 01:00"),
    (LAST_TIME, "2274-10-16 23:59"), (LAST_TIME - 1439, "2274-10-16 00:00"),
)
SIGNS = [chr(code) for code in range(32, 127) if code != 37] + ["\n"]
# Python takes these for figures or blanks, but they are none of the texts' signs.
FOREIGN = ["\u0663", "\u00b2", "\uff11", "\u00a0", "\t"]


class Shown(unittest.TestCase):

    def test_days(self):
        for day, text in DAYS:
            self.assertEqual(show_day(day), text)

    def test_times(self):
        for time, text in TIMES:
            self.assertEqual(show_time(time), text)


class ReadBack(unittest.TestCase):

    def test_days(self):
        for day, text in DAYS:
            self.assertEqual(read_day(text), day)

    def test_times(self):
        for time, text in TIMES:
            self.assertEqual(read_time(text), time)

    def test_many_days_are_read_back(self):
        for day in list(range(0, LAST_DAY, 37)) + list(range(1000)):
            self.assertEqual(read_day(show_day(day)), day)

    def test_every_minute_of_a_day_is_read_back(self):
        for time in range(1440 * 9198, 1440 * 9199):
            self.assertEqual(read_time(show_time(time)), time)


class Refused(unittest.TestCase):

    def refused(self, read, text):
        with self.assertRaises(NoText) as caught:
            read(text)
        self.assertIs(type(caught.exception), NoText)
        self.assertIsInstance(caught.exception, GuestError)
        self.assertEqual(caught.exception.row, 0)
        self.assertIs(type(caught.exception.row), int)

    def read_as_shown(self, read, show, text):
        """Either it is the text of what is read, or it is refused."""
        try:
            told = read(text)
        except NoText:
            self.refused(read, text)
        else:
            self.assertEqual(show(told), text)

    def test_a_sign_put_in(self):
        for read, text in ((read_day, "2026-03-09"), (read_time, "2026-03-09 07:05")):
            for place in range(len(text) + 1):
                for sign in SIGNS + FOREIGN:
                    self.refused(read, text[:place] + sign + text[place:])

    def test_a_sign_left_out(self):
        for read, text in ((read_day, "2026-03-09"), (read_time, "2026-03-09 07:05")):
            for place in range(len(text)):
                self.refused(read, text[:place] + text[place + 1:])

    def test_a_sign_changed(self):
        for read, show, text in ((read_day, show_day, "2026-03-09"), (read_time, show_time, "2026-03-09 07:05")):
            for place in range(len(text)):
                for sign in SIGNS + FOREIGN:
                    other = text[:place] + sign + text[place + 1:]
                    if text[place].isdigit() and sign in list("0123456789"):
                        self.read_as_shown(read, show, other)
                    elif other != text:
                        self.refused(read, other)

    def test_blanks_and_line_feeds_ahead_and_behind(self):
        for sign in (" ", "\n", "\n\n", "  "):
            for read, text in ((read_day, "2026-03-09"), (read_time, "2026-03-09 07:05")):
                self.refused(read, sign + text)
                self.refused(read, text + sign)

    def test_signs_of_numbers_in_the_place_of_figures(self):
        for text in ("+026-03-09", "-026-03-09", "2026-+3-09", "2026- 3-09", "2_26-03-09", "2026-3 -09", "2026-03-9\n"):
            self.refused(read_day, text)
            self.refused(read_time, text + " 07:05")
        for text in ("+7:05", " 7:05", "7 :05", "07:+5", "07: 5", "07:5\n", "07-05", "07 05", "7:005", "007:5"):
            self.refused(read_time, "2026-03-09 " + text)

    def test_dates_that_are_none(self):
        for text in ("2026-00-09", "2026-13-09", "2026-03-00", "2026-03-32", "2026-04-31", "2026-02-29", "2100-02-29"):
            self.refused(read_day, text)
            self.refused(read_time, text + " 00:00")

    def test_days_out_of_the_range(self):
        for text in ("2000-12-31", "2274-10-17", "2275-01-01", "0000-01-01", "0001-01-01", "9999-12-31"):
            self.refused(read_day, text)
            self.refused(read_time, text + " 00:00")

    def test_hours_and_minutes_that_are_none(self):
        for text in ("24:00", "24:01", "25:00", "99:00", "00:60", "23:60", "07:99"):
            self.refused(read_time, "2026-03-09 " + text)

    def test_other_forms(self):
        for text in ("", "2026", "2026-03", "2026-3-9", "20260309", "2026/03/09", "09-03-2026", "12026-03-09", "-"):
            self.refused(read_day, text)
            self.refused(read_time, text)
        self.refused(read_day, "2026-03-09 07:05")
        for text in ("2026-03-09", "2026-03-09 07", "2026-03-09 0705", "2026-03-09T07:05", "2026-03-09 07:05:00",
                     "2026-03-09  07:05", "07:05", "07:05 2026-03-09"):
            self.refused(read_time, text)

    def test_texts_of_very_many_figures(self):
        for many in ("1" * 4301, "0" * 5000, "9" * 20000):
            for text in (many, many + "-03-09", "2026-" + many + "-09", "2026-03-" + many, "2026-03-09 " + many + ":05",
                         "2026-03-09 07:" + many, "2026-03-09" + many, "0" * 4400 + "2026-03-09"):
                self.refused(read_day, text)
                self.refused(read_time, text)

    def test_what_is_no_text(self):
        for thing in (9198, b"2026-03-09", b"2026-03-09 07:05", ("2026-03-09",), ["2026-03-09"], list("2026-03-09"),
                      tuple("2026-03-09 07:05"), (2026, 3, 9), None, True, 0):
            self.refused(read_day, thing)
            self.refused(read_time, thing)

    def test_anything(self):
        for thing, same in zip(anything(), anything()):
            self.refused(read_day, thing)
            self.refused(read_time, thing)
            self.assertEqual(thing, same)


class PlainAndTheSame(unittest.TestCase):

    def test_what_is_told_is_of_the_plain_kinds(self):
        told = [show_day(OwnWhole(9198)), show_time(OwnWhole(425)), read_day(OwnText("2026-03-09")),
                read_day("2001-01-01"), read_time(OwnText("2001-01-01 07:05")), read_time("2001-01-01 00:00")]
        self.assertEqual(told, ["2026-03-09", "2001-01-01 07:05", 9198, 0, 425, 0])
        self.assertTrue(plain_kinds(told))

    def test_who_asks_again_is_told_the_same(self):
        for ask, thing in ((show_day, 5), (read_day, "2005-05-05"), (show_time, 5), (read_time, "2005-05-05 05:05")):
            self.assertEqual(ask(thing), ask(thing))


if __name__ == "__main__":
    unittest.main()
