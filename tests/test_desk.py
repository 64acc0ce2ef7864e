"""Points [34] and [35], and the interface's part of guestcopies/desk.py."""

import random
import unittest

from guestcopies.books import Book
from guestcopies.desk import Desk
from guestcopies.errors import (GuestError, NoDay, NoGuest, NoMeeting, NoOffer, NoRow, NoSeat, NoSending, NoText, NotYet,
                                Over, TooMany, Twice)
from guestcopies.post import Post
from guestcopies.seats import Seat
from guestcopies.tellingtexts import read_telling, show_telling
from plainrows import is_row
from things import MANY_FIGURES, OwnText, anything

TEXT = "clock 0 60\nfrom 2026-03-09 at 09:00 for 60 every 1 weeks on mo th\nplace room"
CHANGED_TEXT = TEXT + "\noff 2026-03-12\nis 2026-03-16 2026-03-17 10:00 45 hall"
DAILY_TEXT = "clock 0 120\nfrom 2026-03-09 at 10:00 for 60 every 1 days\nplace hall"
SIGNS = [chr(code) for code in range(32, 127) if code != 37]


def desk_of(*rows):
    desk = Desk()
    for row in rows:
        desk.say(row)
    return desk


def standup(*guests, text=TEXT):
    return " ".join(("book standup",) + guests) + "\n" + text


class Saying(unittest.TestCase):

    def answers(self, desk, *pairs):
        for row, answer in pairs:
            found = desk.say(row)
            self.assertEqual(found, answer, row)
            self.assertIs(type(found), str)

    def state(self, desk):
        """All that a desk tells of the meetings and seats that these tests use."""
        found = [desk.say("waiting")]
        for row in ("show standup", "offers standup", "lost standup", "words standup 2026-03-09", "words standup 2026-03-12",
                    "see standup ann phone", "versions standup ann phone", "see standup ann desk", "versions standup ann desk",
                    "see standup bob phone", "versions standup bob phone", "see standup caller x", "show other"):
            try:
                found.append(desk.say(row))
            except GuestError as refusal:
                found.append(type(refusal).__name__)
        return found

    def refused(self, desk, kind, said, **fields):
        before = self.state(desk)
        with self.assertRaises(kind, msg=repr(said)[:300]) as caught:
            desk.say(said)
        self.assertIs(type(caught.exception), kind)
        self.assertIsInstance(caught.exception, GuestError)
        self.assertEqual(vars(caught.exception), fields)
        self.assertTrue(all(type(worth) in (int, str) for worth in fields.values()))
        self.assertEqual(self.state(desk), before)


class Books(Saying):

    def test_a_book_and_its_calls(self):
        desk = Desk()
        self.answers(desk, (standup("bob", "ann"), "1 2"), ("waiting", "1 2"), ("show standup", TEXT), ("calls standup", "3 4"),
                     ("book other\n" + CHANGED_TEXT, ""), ("show other", CHANGED_TEXT), ("waiting", "1 2 3 4"),
                     ("calls other", ""))

    def test_twelve_guests(self):
        guests = ["g" + letter for letter in "lkjihgfedcba"]
        desk = Desk()
        self.answers(desk, (standup(*guests), "1 2 3 4 5 6 7 8 9 10 11 12"), ("seat standup ga x", "ok"), ("bring 1", ""),
                     ("versions standup ga x", "1 1"))
        self.refused(desk, TooMany, "invite standup zoe", most=12)
        self.refused(desk, Twice, "invite standup ga", name="ga")

    def test_told_anew(self):
        desk = desk_of(standup("ann", "bob", text=CHANGED_TEXT))
        self.answers(desk, ("tell standup\n" + DAILY_TEXT, "3 4"),
                     ("show standup", DAILY_TEXT + "\noff 2026-03-12\nis 2026-03-16 2026-03-17 10:00 45 hall"),
                     ("tell standup\n" + DAILY_TEXT, ""), ("waiting", "1 2 3 4"), ("lost standup", ""))

    def test_changes(self):
        desk = desk_of(standup("ann"))
        self.answers(desk, ("change standup 2026-03-12 off", "2"), ("change standup 2026-03-12 off", ""),
                     ("show standup", TEXT + "\noff 2026-03-12"), ("change standup 2026-03-12 back", "3"), ("show standup", TEXT),
                     ("change standup 2026-03-12 is 2026-03-13 23:59 1440 abcdefgh", "4"),
                     ("show standup", TEXT + "\nis 2026-03-12 2026-03-13 23:59 1440 abcdefgh"),
                     ("change standup 2026-03-12 is 2026-03-12 09:00 60 room", "5"), ("show standup", TEXT))
        self.refused(desk, NoDay, "change standup 2026-03-13 off", day=9202)
        self.refused(desk, NoDay, "change standup 2001-01-03 back", day=2)

    def test_the_hundred_and_first_change(self):
        desk = desk_of("book standup\n" + DAILY_TEXT)
        book = Book("standup", read_telling(DAILY_TEXT), [])
        for step in range(100):
            book.change(9198 + step, ("off",))
        desk = desk_of("book standup ann\n" + show_telling(book.telling()))
        self.refused(desk, TooMany, "change standup 2026-07-07 off", most=100)

    def test_the_end(self):
        desk = desk_of(standup("ann", "bob"), "change standup 2026-03-12 off")
        self.answers(desk, ("end standup", "5 6"), ("calls standup", "7 8 9 10"), ("seat standup bob x", "ok"), ("bring 10", ""),
                     ("bring 9", ""), ("versions standup bob x", "3 3"), ("show standup", TEXT + "\noff 2026-03-12"))
        for row in ("end standup", "change standup 2026-03-12 off", "change standup 2026-03-13 off", "invite standup ann",
                    "invite standup zoe", "accept standup ann 2026-03-09", "deny standup zoe 2026-03-09", "tell standup\n" + TEXT):
            self.refused(desk, Over, row)

    def test_invited(self):
        desk = desk_of(standup())
        self.answers(desk, ("invite standup zoe", "1"), ("invite standup ann", "2"), ("end standup", "3 4"),
                     ("words standup 2026-03-09", "ann -; zoe -"))

    def test_lost(self):
        desk = desk_of(standup("ann", text=CHANGED_TEXT))
        self.answers(desk, ("lost standup", ""), ("tell standup\n" + TEXT.replace("on mo th", "on tu"), "2"),
                     ("lost standup", "2 2026-03-12 between"),
                     ("show standup", TEXT.replace("on mo th", "on tu") + "\nis 2026-03-17 2026-03-17 10:00 45 hall"),
                     ("tell standup\n" + TEXT.replace("every 1 weeks on mo th", "once"), "3"),
                     ("lost standup", "2 2026-03-12 between; 3 2026-03-17 behind"))


class Seats(Saying):

    def test_a_seat_that_has_heard_nothing(self):
        desk = Desk()
        self.answers(desk, ("seat standup ann phone", "ok"), ("see standup ann phone", "none"), ("versions standup ann phone", "0 0"),
                     ("wish standup ann phone", "1"), ("seat standup ann desk", "ok"), ("seat other ann phone", "ok"))
        for row in ("answer standup ann phone 2026-03-09 yes", "answer standup ann phone all no",
                    "offer standup ann phone 2026-03-09 2026-03-10 10:00 45"):
            self.refused(desk, NotYet, row)

    def test_what_a_seat_hears_and_writes(self):
        desk = desk_of(standup("ann", "bob"), "seat standup ann phone", "bring 1")
        self.answers(desk, ("see standup ann phone", TEXT), ("versions standup ann phone", "1 1"),
                     ("answer standup ann phone 2026-03-09 yes", "3"), ("answer standup ann phone all perhaps", "4"),
                     ("offer standup ann phone 2026-03-12 2026-03-13 10:00 45", "5"), ("wish standup ann phone", "6"),
                     ("words standup 2026-03-09", "ann -; bob -"), ("bring 3", ""), ("words standup 2026-03-09", "ann yes; bob -"),
                     ("bring 5", ""), ("offers standup", "ann 2026-03-12 2026-03-13 10:00 45"), ("bring 4", ""),
                     ("words standup 2026-03-09", "ann perhaps; bob -"), ("words standup 2026-03-12", "ann other; bob -"),
                     ("words standup 2026-03-16", "ann perhaps; bob -"), ("words standup 2026-03-10", "ann -; bob -"),
                     ("bring 6", "7"), ("waiting", "2 7"))
        self.refused(desk, NoDay, "answer standup ann phone 2026-03-10 yes", day=9199)
        self.refused(desk, NoDay, "offer standup ann phone 2026-03-10 2026-03-13 10:00 45", day=9199)

    def test_versions_that_are_lacking(self):
        desk = desk_of(standup("ann"), *["change standup 2026-03-%02d %s" % pair for pair in (
            (12, "off"), (16, "off"), (19, "off"), (12, "back"), (16, "back"), (19, "back"), (23, "off"))])
        self.answers(desk, ("seat standup ann phone", "ok"), ("bring 3", ""), ("versions standup ann phone", "0 3 1-2"), ("bring 1", ""),
                     ("versions standup ann phone", "1 3 2-2"), ("bring 8", ""), ("bring 5", ""),
                     ("versions standup ann phone", "1 8 2-2 4-4 6-7"), ("see standup ann phone", TEXT), ("bring 2", ""),
                     ("versions standup ann phone", "3 8 4-4 6-7"),
                     ("see standup ann phone", TEXT + "\noff 2026-03-12\noff 2026-03-16"))

    def test_over(self):
        desk = desk_of(standup("ann"), "end standup", "seat standup ann phone", "bring 2", "bring 1")
        for row in ("answer standup ann phone 2026-03-09 yes", "answer standup ann phone 2026-03-10 yes",
                    "answer standup ann phone all yes", "offer standup ann phone 2026-03-09 2026-03-10 10:00 45"):
            self.refused(desk, Over, row)
        self.answers(desk, ("wish standup ann phone", "3"), ("bring 3", "4 5"))

    def test_offers(self):
        desk = desk_of(standup("ann", "bob"), "seat standup ann phone", "seat standup bob phone", "bring 1", "bring 2",
                       "offer standup bob phone 2026-03-12 2026-03-13 10:00 45", "offer standup ann phone 2026-03-16 2026-03-17 00:00 1",
                       "offer standup ann phone 2026-03-12 2026-03-14 10:00 1440", "bring 5", "bring 4", "bring 3")
        self.answers(desk, ("offers standup", "ann 2026-03-12 2026-03-14 10:00 1440; ann 2026-03-16 2026-03-17 00:00 1; "
                                              "bob 2026-03-12 2026-03-13 10:00 45"),
                     ("deny standup bob 2026-03-12", "6"), ("offers standup",
                      "ann 2026-03-12 2026-03-14 10:00 1440; ann 2026-03-16 2026-03-17 00:00 1"),
                     ("accept standup ann 2026-03-12", "7 8"), ("words standup 2026-03-12", "ann yes; bob -"),
                     ("offers standup", "ann 2026-03-16 2026-03-17 00:00 1"),
                     ("show standup", TEXT + "\nis 2026-03-12 2026-03-14 10:00 1440 room"), ("bring 6", ""),
                     # By the denied letter the seat's number is one still.
                     ("answer standup bob phone all yes", "9"), ("bring 9", ""), ("words standup 2026-03-09", "ann -; bob yes"))
        self.refused(desk, NoOffer, "deny standup bob 2026-03-12")
        self.refused(desk, NoOffer, "accept standup zoe 2026-03-12")
        self.refused(desk, NoOffer, "accept standup ann 2026-03-13")


class Bringing(Saying):

    def test_to_several_seats_of_one_guest(self):
        desk = desk_of(standup("ann", "bob"), "seat standup ann phone", "seat standup ann desk", "seat standup bob phone",
                       "seat other ann phone")
        self.answers(desk, ("bring 1", ""), ("see standup ann phone", TEXT), ("see standup ann desk", TEXT),
                     ("see standup bob phone", "none"), ("see other ann phone", "none"), ("waiting", "2"))

    def test_seats_do_not_hear_of_one_another(self):
        desk = desk_of(standup("ann"), "seat standup ann phone", "seat standup ann desk", "bring 1")
        self.answers(desk, ("answer standup ann phone all yes", "2"), ("answer standup ann desk all no", "3"), ("bring 2", ""),
                     ("bring 3", ""))
        # Both have number 1; phone is the greater holder.
        self.answers(desk, ("words standup 2026-03-09", "ann yes"))

    def test_to_no_seat_and_twice(self):
        desk = desk_of(standup("ann"))
        self.answers(desk, ("bring 1", ""), ("waiting", ""), ("seat standup ann phone", "ok"), ("see standup ann phone", "none"),
                     ("bring 1", ""), ("see standup ann phone", TEXT), ("bring 1", ""), ("waiting", ""))

    def test_a_guest_of_the_name_caller(self):
        desk = desk_of(standup("caller", "ann"), "seat standup caller x")
        self.answers(desk, ("bring 2", ""), ("see standup caller x", TEXT), ("answer standup caller x all yes", "3"),
                     ("wish standup caller x", "4"), ("bring 3", ""), ("words standup 2026-03-09", "ann -; caller yes"),
                     ("bring 4", "5"), ("end standup", "6 7"), ("bring 7", ""), ("versions standup caller x", "2 2"))

    def test_a_wish_twice(self):
        desk = desk_of(standup("ann"), "seat standup ann phone", "wish standup ann phone")
        self.answers(desk, ("bring 2", "3"), ("bring 2", "4"), ("waiting", "1 3 4"), ("bring 4", ""),
                     ("see standup ann phone", TEXT), ("end standup", "5"), ("bring 2", "6 7"))

    def test_what_is_refused_is_not_brought(self):
        desk = desk_of("seat standup ann phone", "wish standup ann phone")
        self.refused(desk, NoMeeting, "bring 1", name="standup")
        self.answers(desk, ("waiting", "1"), (standup("bob"), "2"))
        self.refused(desk, NoGuest, "bring 1", name="ann")
        self.answers(desk, ("waiting", "1 2"), ("invite standup ann", "3"), ("bring 1", "4"), ("waiting", "2 3 4"))
        self.refused(desk, NoSending, "bring 5", sending=5)

    def test_late_and_in_any_order(self):
        desk = desk_of(standup("ann"), "change standup 2026-03-12 off", "change standup 2026-03-12 back", "seat standup ann phone")
        self.answers(desk, ("bring 3", ""), ("bring 2", ""), ("versions standup ann phone", "0 3 1-1"), ("bring 1", ""),
                     ("versions standup ann phone", "3 3"), ("bring 2", ""), ("versions standup ann phone", "3 3"), ("waiting", ""))


class NoRows(Saying):

    ROWS = ("book standup ann bob\n" + TEXT, "book standup\n" + TEXT, "tell standup\n" + TEXT, "change standup 2026-03-12 back",
            "change standup 2026-03-12 off", "change standup 2026-03-12 is 2026-03-13 10:00 45 hall", "end standup",
            "invite standup zoe", "accept standup ann 2026-03-12", "deny standup ann 2026-03-12", "calls standup",
            "seat standup ann phone", "answer standup ann phone 2026-03-12 yes", "answer standup ann phone all no",
            "offer standup ann phone 2026-03-12 2026-03-13 10:00 45", "wish standup ann phone", "bring 1", "show standup",
            "see standup ann phone", "versions standup ann phone", "words standup 2026-03-12", "offers standup", "lost standup",
            "waiting")
    WORDS = ("", "a", "abcdefgh", "abcdefghi", "Ann", "a1", "1", "0", "01", "-1", "1440", "1441", "999999999", "1000000000", "all",
             "yes", "perhaps", "maybe", "other", "back", "off", "is", "10:00", "24:00", "10:60", "2026-03-12", "2026-02-29",
             "2001-01-03", "2001-01-02", "2274-10-07", "2274-10-08", "2274-10-16", "book", "tell", "bring", "waiting", "caller",
             "~", "\t", MANY_FIGURES, "1" * 4301)

    def compared(self, row):
        """Whether the row is refused with NoRow by a new desk; whatever else it is refused with."""
        desk = Desk()
        try:
            desk.say(row)
        except NoRow:
            self.assertFalse(is_row(row), repr(row)[:300])
        except GuestError:
            self.assertTrue(is_row(row), repr(row)[:300])
        else:
            self.assertTrue(is_row(row), repr(row)[:300])

    def test_the_rows_themselves(self):
        for row in self.ROWS:
            self.assertTrue(is_row(row), row)
            self.compared(row)

    def test_one_word_otherwise_more_and_fewer(self):
        for row in self.ROWS:
            line, feed, text = row.partition("\n")
            words = line.split(" ")
            for at in range(len(words) + 1):
                self.compared(" ".join(words[:at] + words[at + 1:]) + feed + text)
                self.compared(" ".join(words[:at] + words[at:at + 1] + words[at:]) + feed + text)
                for word in self.WORDS:
                    self.compared(" ".join(words[:at] + [word] + words[at:]) + feed + text)
                    self.compared(" ".join(words[:at] + [word] + words[at + 1:]) + feed + text)

    def test_a_sign_more_fewer_and_otherwise(self):
        for row in self.ROWS:
            for at in range(row.find("\n") % (len(row) + 1) + 1):
                self.compared(row[:at] + row[at + 1:])
                for sign in SIGNS[at % 7::7] + ["\n", " ", "0", "a"]:
                    self.compared(row[:at] + sign + row[at:])
                    self.compared(row[:at] + sign + row[at + 1:])

    def test_blanks_and_line_feeds(self):
        desk = desk_of(standup("ann"), "seat standup ann phone")
        for row in self.ROWS:
            line, feed, text = row.partition("\n")
            for wrong in (" " + row, line + " " + feed + text, line.replace(" ", "  ", 1) + feed + text, "\n" + row):
                if wrong != row:
                    self.refused(desk, NoRow, wrong)
            if feed:
                self.refused(desk, NoRow, line)
            else:
                for wrong in (row + "\n", row + "\n" + TEXT, row + "\n\n", row.replace(" ", "\n", 1) + "\n"):
                    self.refused(desk, NoRow, wrong)
        for wrong in ("", " ", "\n", "\n\n", "book", "book\n" + TEXT, "book \n" + TEXT, "tell\n" + TEXT, "change", "bring", "bring ",
                      "say", "Waiting", "waitings", "waiting waiting", "show", "words standup", "versions standup ann"):
            self.refused(desk, NoRow, wrong)

    def test_numbers(self):
        desk = desk_of(standup("ann"))
        for text in ("0", "00", "01", "-1", "+1", "1.0", "1_0", "1000000000", "9" * 10, MANY_FIGURES, "0" * 5000, "9" * 4300, "9" * 4301,
                     "", "x", "1 ", " 1", "one", "1\n"):
            self.refused(desk, NoRow, "bring " + text)
        for length in ("0", "01", "1441", "-5", "1440.", MANY_FIGURES, ""):
            self.refused(desk, NoRow, f"change standup 2026-03-12 is 2026-03-13 10:00 {length} hall")
            self.refused(desk, NoRow, f"offer standup ann phone 2026-03-12 2026-03-13 10:00 {length}")

    def test_days(self):
        desk = desk_of(standup("ann"), "seat standup ann phone", "bring 1")
        for day in ("2001-01-02", "2001-01-01", "2274-10-08", "2274-10-16", "2026-02-29", "2026-3-12", "0000-00-00", "9999-12-31",
                    "all", "", "x", MANY_FIGURES):
            for row in ("change standup {} off", "change standup {} back", "change standup 2026-03-12 is {} 10:00 45 hall",
                        "accept standup ann {}", "deny standup ann {}", "words standup {}",
                        "offer standup ann phone {} 2026-03-13 10:00 45", "offer standup ann phone 2026-03-12 {} 10:00 45"):
                self.refused(desk, NoRow, row.format(day))
            if day != "all":
                self.refused(desk, NoRow, f"answer standup ann phone {day} yes")
        for day in ("2001-01-03", "2274-10-07"):
            self.assertEqual(desk.say(f"words standup {day}"), "ann -")

    def test_too_many_guests_and_one_twice(self):
        desk = Desk()
        guests = ["g" + letter for letter in "abcdefghijklm"]
        self.refused(desk, NoRow, standup(*guests))
        self.refused(desk, NoRow, standup("ann", "bob", "ann"))
        self.refused(desk, NoRow, standup("ann", "ann"))
        self.refused(desk, NoRow, standup(*(guests[:12] + guests[:1])))
        self.answers(desk, (standup("standup"), "1"))

    def test_what_is_no_text(self):
        desk = desk_of(standup("ann"), "seat standup ann phone")
        for thing in anything() + [["waiting"], ("waiting",), 1, (1,), b"waiting"]:
            self.refused(desk, NoRow, thing)


class Order(Saying):
    """Which refusal is raised where several are due."""

    def desk(self):
        return desk_of(standup("ann"), "seat standup ann phone", "change standup 2026-03-12 off")

    def test_no_row_ahead_of_all(self):
        desk = self.desk()
        for row in ("book standup ann ann\nx", "book other ann ann\nx", "tell other", "tell other x\nx", "change other 2026-03-12 on",
                    "end other x", "seat standup ann phone x", "bring 0", "bring 1000000000", "words other 2001-01-02",
                    "answer other ann phone all maybe", "answer standup ann phone 2001-01-01 yes"):
            self.refused(desk, NoRow, row)

    def test_no_sending(self):
        desk = self.desk()
        for number in (3, 4, 999999999):
            self.refused(desk, NoSending, f"bring {number}", sending=number)
        self.refused(Desk(), NoSending, "bring 1", sending=1)

    def test_no_meeting(self):
        desk = self.desk()
        for row in ("tell other\n" + TEXT, "tell other\nx", "tell other\n", "change other 2026-03-12 off", "change other 2026-03-13 off",
                    "end other", "invite other ann", "accept other ann 2026-03-12", "deny other ann 2026-03-12", "calls other",
                    "show other", "words other 2026-03-12", "offers other", "lost other"):
            self.refused(desk, NoMeeting, row, name="other")
        for row in (standup("ann"), standup("ann", text="x"), standup(text=""), standup(text=CHANGED_TEXT)):
            self.refused(desk, NoMeeting, row, name="standup")
        # A seat of a meeting makes no book of it.
        desk.say("seat other ann phone")
        self.refused(desk, NoMeeting, "show other", name="other")
        self.answers(desk, ("book other\n" + TEXT, ""))

    def test_no_seat(self):
        desk = self.desk()
        for row in ("answer standup ann desk all yes", "answer standup bob phone 2026-03-13 yes", "answer other ann phone all yes",
                    "offer standup ann desk 2026-03-12 2026-03-13 10:00 45", "wish standup zoe phone", "wish other ann phone",
                    "see standup ann desk", "versions standup phone ann", "seat standup ann phone"):
            self.refused(desk, NoSeat, row)
        self.answers(desk, ("seat standup ann desk", "ok"))
        self.refused(desk, NoSeat, "seat standup ann desk")

    def test_no_text_by_its_row(self):
        desk = self.desk()
        rows = CHANGED_TEXT.split("\n")
        for at in range(5):
            for wrong in ("", "x", " ", rows[at] + " "):
                text = "\n".join(rows[:at] + [wrong] + rows[at + 1:])
                self.refused(desk, NoText, "book other ann\n" + text, row=at)
                if at < 3:
                    self.refused(desk, NoText, "tell standup\n" + text, row=at)
        for many in (0, 1, 2):
            text = "\n".join(rows[:many])
            self.refused(desk, NoText, "book other\n" + text, row=many)
            self.refused(desk, NoText, "tell standup\n" + text, row=many)
        self.refused(desk, NoText, "book other\n" + TEXT + "\n", row=3)
        self.refused(desk, NoText, "tell standup\n" + TEXT + "\n", row=3)
        self.refused(desk, NoText, "book other\n\n" + TEXT, row=0)
        self.refused(desk, NoText, "book other\nclock 0 " + MANY_FIGURES, row=0)
        self.refused(desk, NoMeeting, "show other", name="other")

    def test_tell_with_changes(self):
        desk = self.desk()
        self.refused(desk, NoText, "tell standup\n" + CHANGED_TEXT, row=3)
        self.refused(desk, NoText, "tell standup\n" + TEXT + "\noff 2026-03-12", row=3)
        self.refused(desk, NoText, "tell standup\n" + TEXT + "\noff 2026-03-13", row=3)

    def test_tell_with_changes_and_a_wrong_row_behind_them(self):
        # No text of a telling: so the row is the first that is wrong in it.
        desk = self.desk()
        self.refused(desk, NoText, "tell standup\n" + CHANGED_TEXT + "\nx", row=5)

    def test_no_text_ahead_of_over(self):
        desk = self.desk()
        desk.say("end standup")
        self.refused(desk, NoText, "tell standup\nx", row=0)
        self.refused(desk, NoText, "tell standup\n" + CHANGED_TEXT, row=3)
        self.refused(desk, Over, "tell standup\n" + TEXT)

    def test_no_guest_at_last(self):
        desk = desk_of(standup("ann"), "seat standup bob phone", "wish standup bob phone")
        self.refused(desk, NoGuest, "bring 2", name="bob")


class Drawn(Saying):

    MEETINGS, GUESTS, HOLDERS = ("standup", "lunch"), ("ann", "bob", "caller"), ("desk", "phone")

    def drawn_row(self, chance, many):
        meeting, guest, holder = chance.choice(self.MEETINGS), chance.choice(self.GUESTS), chance.choice(self.HOLDERS)
        day = chance.choice(("2026-03-09", "2026-03-12", "2026-03-16", "2026-03-13"))
        slot = chance.choice(("2026-03-10 10:00 45", "2026-03-12 09:00 60"))
        seat = f"{meeting} {guest} {holder}"
        text = chance.choice((TEXT, TEXT, DAILY_TEXT, CHANGED_TEXT, TEXT.replace("mo th", "tu th")))
        if many and chance.random() < 0.45:
            return f"bring {chance.randint(max(1, many - 15), many + 1)}"
        return chance.choice((
            f"book {meeting} {' '.join(chance.sample(self.GUESTS, 2))}\n{text}", f"tell {meeting}\n{text}", f"change {meeting} {day} off",
            f"change {meeting} {day} back", f"change {meeting} {day} is {slot} hall", f"change {meeting} {day} is {slot} room",
            f"invite {meeting} {guest}", f"accept {meeting} {guest} {day}", f"deny {meeting} {guest} {day}", f"calls {meeting}",
            f"seat {seat}", f"answer {seat} {day} yes", f"answer {seat} all no", f"offer {seat} {day} {slot}", f"offer {seat} {day} {slot}",
            f"wish {seat}", f"end {meeting}" if chance.random() < 0.1 else "waiting", f"answer {seat} {day} perhaps"))

    def asked(self):
        """Rows that ask and change nothing."""
        rows = ["waiting"]
        for meeting in self.MEETINGS:
            rows += [f"{kind} {meeting}" for kind in ("show", "offers", "lost")]
            rows += [f"words {meeting} {day}" for day in ("2026-03-09", "2026-03-12", "2026-03-16")]
            rows += [f"{kind} {meeting} {guest} {holder}" for kind in ("see", "versions") for guest in self.GUESTS
                     for holder in self.HOLDERS]
        return rows

    def outcome(self, desk, row):
        try:
            return desk.say(row)
        except GuestError as refusal:
            return (type(refusal).__name__, vars(refusal))

    def test_drawn_rows_beside_books_seats_and_a_post(self):
        chance = random.Random(34)
        seen = set()
        for again in range(60):
            desk, plain = Desk(), PlainDesk()
            rows = chance.choice(([], [f"seat standup {guest} phone" for guest in self.GUESTS] + [standup("ann", "bob")]))
            for step in range(chance.randint(20, 90)):
                row = rows.pop() if rows else self.drawn_row(chance, len(plain.sent))
                found, expected = self.outcome(desk, row), self.outcome(plain, row)
                self.assertEqual(found, expected, row)
                seen.add(found[0] if isinstance(found, tuple) else "answered")
                for question in chance.sample(self.asked(), 8):
                    self.assertEqual(self.outcome(desk, question), self.outcome(plain, question), question)
        # No seat can know a version that its book hasn't: NoVersion never comes.
        self.assertEqual({"answered", "NoMeeting", "NoSeat", "NoSending", "NoText", "NoDay", "Twice", "NotYet", "NoOffer", "NoGuest",
                          "Over"}, seen)


class PlainDesk:
    """A desk by the objects that are tested by themselves, with its own reading of rows that are right."""

    def __init__(self):
        self.books, self.seats, self.post, self.sent = {}, {}, Post(), []

    def send(self, some):
        self.sent += some
        return " ".join(str(number) for number in self.post.put(some))

    def day(self, text):
        return None if text == "all" else read_telling(TEXT.replace("2026-03-09", text))[1][0]

    def slot(self, words):
        hours, minutes = words[1].split(":")
        return (self.day(words[0]), 60 * int(hours) + int(minutes), int(words[2]))

    def change(self, words):
        return None if words == ["back"] else ("off",) if words == ["off"] else ("is",) + self.slot(words[1:4]) + (words[4],)

    def say(self, row):
        line, feed, text = row.partition("\n")
        kind, *words = line.split(" ")
        if kind == "waiting":
            return " ".join(str(number) for number in self.post.never())
        if kind == "bring":
            return self.bring(int(words[0]))
        if kind in ("seat", "answer", "offer", "wish", "see", "versions"):
            return self.seat_row(kind, tuple(words[:3]), words[3:])
        return self.book_row(kind, words[0], words[1:], text)

    def bring(self, number):
        if number > len(self.sent):
            raise NoSending(number)
        to, letter = self.sent[number - 1]
        answers = []
        if letter[0] in ("answer", "offer", "wish"):
            if letter[1] not in self.books:
                raise NoMeeting(letter[1])
            answers = self.books[letter[1]].take(letter)
        else:
            for holder in Drawn.HOLDERS:
                if (letter[1], to, holder) in self.seats:
                    self.seats[(letter[1], to, holder)].take(letter)
        self.post.bring(number)
        return self.send(answers)

    def seat_row(self, kind, key, words):
        if (kind == "seat") == (key in self.seats):
            raise NoSeat("")
        if kind == "seat":
            self.seats[key] = Seat(*key)
            return "ok"
        seat = self.seats[key]
        if kind == "see":
            return show_telling(seat.telling()) if seat.telling() else "none"
        if kind == "versions":
            return " ".join([str(seat.version()), str(seat.newest())] + ["%d-%d" % pair for pair in seat.lacking()])
        if kind == "answer":
            return self.send([("caller", seat.answer(self.day(words[0]), words[1]))])
        if kind == "offer":
            return self.send([("caller", seat.offer(self.day(words[0]), self.slot(words[1:])))])
        return self.send([("caller", seat.wish())])

    def book_row(self, kind, meeting, words, text):
        if (kind == "book") == (meeting in self.books):
            raise NoMeeting(meeting)
        if kind == "book":
            self.books[meeting] = Book(meeting, read_telling(text), words)
            return self.send(self.books[meeting].calls())
        book = self.books[meeting]
        if kind == "show":
            return show_telling(book.telling())
        if kind == "words":
            return "; ".join(f"{guest} {book.word(guest, self.day(words[0])) or '-'}" for guest in book.guests())
        if kind == "offers":
            return "; ".join(f"{guest} {self.date(day)} {self.date(on)} {minute // 60:02}:{minute % 60:02} {length}"
                             for guest, day, (on, minute, length) in book.offers())
        if kind == "lost":
            return "; ".join(f"{version} {self.date(day)} {why}" for version, day, why in book.lost())
        if kind == "tell":
            telling = read_telling(text)
            if telling[3]:
                raise NoText(3)
            return self.send(book.tell(*telling[:3]))
        if kind == "change":
            return self.send(book.change(self.day(words[0]), self.change(words[1:])))
        parts = [self.day(word) if word[:1] == "2" else word for word in words]
        return self.send(getattr(book, kind)(*parts))

    def date(self, day):
        return f"2026-03-{day - 9189:02}"


class PlainAndTheSame(Saying):

    def test_what_is_told_is_of_the_plain_kinds(self):
        desk = Desk()
        rows = [standup("ann"), "seat standup ann phone", "bring 1", "answer standup ann phone all yes", "waiting", "bring 2",
                "offer standup ann phone 2026-03-12 2026-03-13 10:00 45", "bring 3", "words standup 2026-03-09", "offers standup",
                "show standup", "see standup ann phone", "versions standup ann phone", "calls standup", "lost standup"]
        for row in rows:
            self.assertIs(type(desk.say(OwnText(row))), str)
        self.refused(desk, NoMeeting, OwnText("show other"), name="other")
        self.refused(desk, NoSending, OwnText("bring 77"), sending=77)
        self.refused(desk, Twice, OwnText("invite standup ann"), name="ann")

    def test_who_asks_again_is_told_the_same(self):
        desk = desk_of(standup("ann"), "seat standup ann phone", "bring 1")
        self.assertEqual(self.state(desk), self.state(desk))

    def test_desks_are_apart(self):
        one, other = desk_of(standup("ann")), Desk()
        self.assertEqual(other.say("waiting"), "")
        self.refused(other, NoMeeting, "show standup", name="standup")
        self.assertEqual(one.say("waiting"), "1")

    def test_each_method_is_the_classes_own(self):
        self.assertIn("say", vars(Desk))


if __name__ == "__main__":
    unittest.main()
