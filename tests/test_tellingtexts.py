"""Points [16] and [17] of tellings, and the interface's part of guestcopies/tellingtexts.py."""

import random
import unittest

from guestcopies.errors import GuestError, NoText
from guestcopies.tellings import is_telling
from guestcopies.tellingtexts import read_telling, show_telling
from plaindays import plain_days
from plaintexts import HOWS, plain_telling
from things import MANY_FIGURES, OwnText, OwnTuple, OwnWhole, anything, plain_kinds

CLOCK = ((0, 60), (5000, -120), (143999999, 0))
RULE = (9198, 540, 60, ("weeks", 1, (0, 3)), ("times", 120))
CLOCK_ROW = "clock 0 60 5000 -120 143999999 0"
RULE_ROW = "from 2026-03-09 at 09:00 for 60 every 1 weeks on mo th times 120"
PLACE_ROW = "place room"
HEAD = [CLOCK_ROW, RULE_ROW, PLACE_ROW]
OFF_ROW = "off 2026-03-09"
IS_ROW = "is 2026-03-12 2026-03-11 10:00 45 hall"
ROWS = HEAD + [OFF_ROW, IS_ROW, "off 2026-03-16"]
TELLING = (CLOCK, RULE, "room", ((9198, ("off",)), (9201, ("is", 9200, 600, 45, "hall")), (9205, ("off",))))
SIGNS = [chr(code) for code in range(32, 127) if code != 37]


def plain_row(rows):
    """The first row that is wrong, by whether the rows up to it can be made a whole telling's; None where all is right."""
    for many in range(1, len(rows) + 1):
        if plain_telling(rows[:many] + ["from 2026-03-09 at 09:00 for 60 once", "place a"][many - 1:]) is None:
            return many - 1
    return None if plain_telling(rows) is not None else len(rows)


class ShownAndRead(unittest.TestCase):

    def both_ways(self, telling, text):
        self.assertTrue(is_telling(telling))
        self.assertEqual(show_telling(telling), text)
        self.assertEqual(read_telling(text), telling)

    def test_none_some_and_a_hundred_changes(self):
        self.both_ways(TELLING[:3] + ((),), "\n".join(HEAD))
        self.both_ways(TELLING[:3] + (TELLING[3][:1],), "\n".join(HEAD + [OFF_ROW]))
        self.both_ways(TELLING[:3] + (TELLING[3][1:2],), "\n".join(HEAD + [IS_ROW]))
        self.both_ways(TELLING, "\n".join(ROWS))
        daily = (9198, 540, 60, ("days", 1), None)
        rows = [CLOCK_ROW, "from 2026-03-09 at 09:00 for 60 every 1 days", PLACE_ROW]
        # A hundred days from March 9: 23 in March, 30, 31, and 16 in June.
        dates = ["2026-03-%02d" % day for day in range(9, 32)] + ["2026-04-%02d" % day for day in range(1, 31)]
        dates += ["2026-05-%02d" % day for day in range(1, 32)] + ["2026-06-%02d" % day for day in range(1, 17)]
        self.both_ways((CLOCK, daily, "room", tuple((9198 + step, ("off",)) for step in range(100))),
                       "\n".join(rows + ["off " + date for date in dates]))
        self.both_ways((CLOCK, daily, "room", tuple((9198 + step, ("is", 2, 0, 1, "a")) for step in range(100))),
                       "\n".join(rows + [f"is {date} 2001-01-03 00:00 1 a" for date in dates]))

    def test_clocks_of_one_and_of_forty_turns(self):
        for offset in (-840, -1, 0, 1, 840):
            self.both_ways((((0, offset),),) + TELLING[1:3] + ((),), f"clock 0 {offset}\n{RULE_ROW}\n{PLACE_ROW}")
        clock = tuple((1000 * step, step - 20) for step in range(40))
        row = "clock " + " ".join(f"{1000 * step} {step - 20}" for step in range(40))
        self.both_ways((clock,) + TELLING[1:3] + ((),), "\n".join([row, RULE_ROW, PLACE_ROW]))

    def test_changes_at_their_bounds(self):
        for change, text in ((("is", 2, 0, 1, "a"), "2001-01-03 00:00 1 a"),
                             (("is", 99990, 1439, 1440, "abcdefgh"), "2274-10-07 23:59 1440 abcdefgh"),
                             (("is", 9198, 540, 61, "room"), "2026-03-09 09:00 61 room")):
            self.both_ways(TELLING[:3] + (((9198, change),),), "\n".join(HEAD + ["is 2026-03-09 " + text]))

    def test_rules_of_each_kind(self):
        for how, text in HOWS:
            telling = (CLOCK, (9198, 425, 60, how, None), "room", ())
            self.both_ways(telling, f"{CLOCK_ROW}\nfrom 2026-03-09 at 07:05 for 60 {text}\n{PLACE_ROW}")

    def test_drawn_tellings(self):
        chance = random.Random(16)
        for again in range(100):
            rule = (9198, chance.randint(0, 1439), chance.randint(1, 1440), chance.choice(HOWS)[0], ("until", 9900))
            days = plain_days(rule)[:50]
            changes = []
            for day in sorted(chance.sample(days, min(len(days), chance.randint(0, 30)))):
                changes.append((day, chance.choice((("off",), ("is", chance.choice(days), chance.randint(0, 1439),
                                                               chance.randint(1, 1440), "hall")))))
            telling = (CLOCK, rule, "room", tuple(changes))
            self.assertEqual(plain_telling(show_telling(telling).split("\n")), telling)
            self.assertEqual(read_telling(show_telling(telling)), telling)


class Refused(unittest.TestCase):

    def refused(self, text, row):
        with self.assertRaises(NoText, msg=repr(text)[:300]) as caught:
            read_telling(text)
        self.assertIs(type(caught.exception), NoText)
        self.assertIsInstance(caught.exception, GuestError)
        self.assertEqual(caught.exception.row, row, repr(text)[:300])
        self.assertIs(type(caught.exception.row), int)

    def compared(self, rows):
        """Read, or refused by the same row, as by completing the rows up to each one."""
        row = plain_row("\n".join(rows).split("\n"))
        if row is None:
            self.assertEqual(show_telling(read_telling("\n".join(rows))), "\n".join(rows))
        else:
            self.refused("\n".join(rows), row)

    def with_row(self, place, row):
        return ROWS[:place] + [row] + ROWS[place + 1:]

    def test_a_sign_put_in_left_out_and_changed_in_each_row(self):
        for place, row in enumerate(ROWS):
            for at in range(len(row) + 1):
                self.compared(self.with_row(place, row[:at] + row[at + 1:]))
                self.compared(self.with_row(place, row[:at] + "\n" + row[at:]))
                for sign in SIGNS[at % 5::5] + [" ", "0", "-", "a"]:
                    self.compared(self.with_row(place, row[:at] + sign + row[at:]))
                    self.compared(self.with_row(place, row[:at] + sign + row[at + 1:]))

    def test_a_word_more_fewer_twice_or_another_one_in_each_row(self):
        some = ["", "0", "1", "-0", "clock", "place", "off", "is", "2026-03-10", "2026-03-16", "10:00", "hall", "Hall"]
        for place, row in enumerate(ROWS):
            words = row.split(" ")
            for at in range(len(words) + 1):
                self.compared(self.with_row(place, " ".join(words[:at] + words[at + 1:])))
                self.compared(self.with_row(place, " ".join(words[:at] + words[at:at + 1] + words[at:])))
                for word in some:
                    self.compared(self.with_row(place, " ".join(words[:at] + [word] + words[at:])))
                    self.compared(self.with_row(place, " ".join(words[:at] + [word] + words[at + 1:])))

    def test_a_row_more_fewer_or_twice(self):
        for place in range(len(ROWS) + 1):
            self.compared(ROWS[:place] + ROWS[place + 1:])
            self.compared(ROWS[:place] + ROWS[place:place + 1] + ROWS[place:])
            for row in ("", " ", "x", PLACE_ROW, CLOCK_ROW, RULE_ROW, OFF_ROW, IS_ROW, "off 2026-03-19"):
                self.compared(ROWS[:place] + [row] + ROWS[place:])

    def test_two_rows_exchanged(self):
        for one in range(len(ROWS)):
            for other in range(one):
                mixed = list(ROWS)
                mixed[one], mixed[other] = ROWS[other], ROWS[one]
                self.compared(mixed)

    def test_rows_of_each_kind_that_are_wrong(self):
        for row in ("clock", "clock ", "clock 0", "clock 0 0 5", "clock 1 0", "clock 0 841", "clock 0 -841", "clock 0 -0",
                    "clock 0 00", "clock 00 0", "clock 0 +5", "clock 0 0 0 0", "clock 0 0 5 0 4 0", "clock 0 0 144000000 0",
                    "clock 0 --5", "clock 0 -", "clock 0 - 5", "clock -0 0", "clock  0 0", "clock 0 0 ", " clock 0 0",
                    "Clock 0 0", "clocks 0 0", "clock 0,0", "clock 0 -05", "",
                    "clock " + " ".join(f"{step} 0" for step in range(41))):
            self.refused("\n".join(self.with_row(0, row)), 0)
        for row in ("", "once", "from 2026-03-09 at 09:00 for 60", RULE_ROW + " ", PLACE_ROW, CLOCK_ROW):
            self.refused("\n".join(self.with_row(1, row)), 1)
        for row in ("", "place", "place ", "place Room", "place room ", "place  room", "place a b", "place abcdefghi",
                    "places room", "place 1", "Place room", "room", " place room", "place \u00e4", OFF_ROW):
            self.refused("\n".join(self.with_row(2, row)), 2)
        for row in ("", "off", "off ", "off 2026-03-09 ", "off 2026-3-9", "off 2026-02-29", "on 2026-03-09", "back 2026-03-09",
                    "is 2026-03-09", "is 2026-03-09 2026-03-11 10:00 45", "is 2026-03-09 2026-03-11 10:00 45 hall x",
                    "is 2026-03-09 2026-03-11 10:00 0 hall", "is 2026-03-09 2026-03-11 10:00 1441 hall",
                    "is 2026-03-09 2026-03-11 24:00 45 hall", "is 2026-03-09 2001-01-02 10:00 45 hall",
                    "is 2026-03-09 2274-10-08 10:00 45 hall", "is 2026-03-09 2026-03-11 10:00 045 hall",
                    "is 2026-03-09 2026-03-11 10:00 45 Hall", "is 2026-03-09 all 10:00 45 hall"):
            self.refused("\n".join(self.with_row(3, row)), 3)

    def test_a_change_of_a_day_that_is_none_of_the_rules(self):
        for day in ("2026-03-10", "2026-03-05", "2001-01-01", "2274-10-16", "2027-05-03"):
            self.refused("\n".join(HEAD + ["off " + day]), 3)
            self.refused("\n".join(HEAD + [f"is {day} 2026-03-11 10:00 45 hall"]), 3)
        # The last of the rule's 120 days, and the one that would be behind it.
        self.assertEqual(read_telling("\n".join(HEAD + ["off 2027-04-29"]))[3], ((plain_days(RULE)[-1], ("off",)),))
        self.refused("\n".join(HEAD + ["off 2027-05-03"]), 3)

    def test_changes_whose_days_do_not_rise(self):
        self.refused("\n".join(HEAD + ["off 2026-03-16", "off 2026-03-12"]), 4)
        self.refused("\n".join(HEAD + ["off 2026-03-16", "off 2026-03-16"]), 4)
        self.refused("\n".join(HEAD + [OFF_ROW, IS_ROW, OFF_ROW]), 5)
        self.refused("\n".join(HEAD + [OFF_ROW, IS_ROW, IS_ROW, "x"]), 5)

    def test_a_bare_change(self):
        self.refused("\n".join(HEAD + ["is 2026-03-09 2026-03-09 09:00 60 room"]), 3)
        self.refused("\n".join(HEAD + [OFF_ROW, "is 2026-03-12 2026-03-12 09:00 60 room"]), 4)
        self.assertEqual(len(read_telling("\n".join(HEAD + ["is 2026-03-09 2026-03-12 09:00 60 room"]))[3]), 1)

    def test_the_hundred_and_first_change(self):
        telling = TELLING[:3] + (tuple((day, ("off",)) for day in plain_days(RULE)[:101]),)
        rows = show_telling(telling).split("\n")
        self.assertEqual(len(read_telling("\n".join(rows[:-1]))[3]), 100)
        self.refused("\n".join(rows), 103)
        self.refused("\n".join(rows + ["x"]), 103)
        self.refused("\n".join(rows[:50] + ["x"] + rows[50:]), 50)

    def test_rows_that_are_lacking(self):
        self.refused(CLOCK_ROW, 1)
        self.refused(f"{CLOCK_ROW}\n{RULE_ROW}", 2)

    def test_a_line_feed_at_the_end(self):
        for many in range(1, len(ROWS) + 1):
            self.refused("\n".join(ROWS[:many]) + "\n", many)
            self.refused("\n".join(ROWS[:many]) + "\n\n", many)
        self.refused("\n" + "\n".join(ROWS), 0)

    def test_no_signs_at_all(self):
        for text in ("", "\n", "\n\n", " "):
            self.refused(text, 0)

    def test_other_ends_of_rows(self):
        self.refused("\r\n".join(ROWS), 0)
        self.refused("\n".join(HEAD) + "\r", 2)
        self.refused(CLOCK_ROW + "\u2028" + RULE_ROW, 0)

    def test_numbers_of_very_many_figures(self):
        for many in (MANY_FIGURES, "9" * 4301, "-" + MANY_FIGURES, "0" * 5000):
            for place, row in enumerate(ROWS):
                words = row.split(" ")
                for at in range(len(words)):
                    self.refused("\n".join(self.with_row(place, " ".join(words[:at] + [many] + words[at + 1:]))), place)

    def test_what_is_no_text(self):
        for thing in (TELLING, ROWS, tuple(ROWS), "\n".join(ROWS).encode(), None, True, 0):
            self.refused(thing, 0)

    def test_anything(self):
        for thing, same in zip(anything(), anything()):
            self.refused(thing, 0)
            self.assertEqual(thing, same)


class PlainAndTheSame(unittest.TestCase):

    def test_what_is_told_is_of_the_plain_kinds(self):
        def own(thing):
            if isinstance(thing, tuple):
                return OwnTuple(own(part) for part in thing)
            return None if thing is None else OwnText(thing) if isinstance(thing, str) else OwnWhole(thing)
        told = [show_telling(own(TELLING)), read_telling(OwnText("\n".join(ROWS))), read_telling("\n".join(HEAD))]
        self.assertEqual(told[:2], ["\n".join(ROWS), TELLING])
        self.assertTrue(plain_kinds(told))

    def test_who_asks_again_is_told_the_same(self):
        for again in range(2):
            self.assertEqual(show_telling(TELLING), "\n".join(ROWS))
            self.assertEqual(read_telling("\n".join(ROWS)), TELLING)


if __name__ == "__main__":
    unittest.main()
