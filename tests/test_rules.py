"""Point [8], and the interface's part of guestcopies/rules.py."""

import unittest

from guestcopies.rules import is_rule
from things import HUGE, MANY_FIGURES, OwnText, OwnTuple, OwnWhole, anything, nested

RULE = (9198, 540, 60, ("weeks", 2, (0, 2, 4)), ("times", 10))
HOWS = (
    ("once",), ("days", 1), ("days", 99), ("weeks", 1, (0,)), ("weeks", 99, (6,)), ("weeks", 5, (0, 1, 2, 3, 4, 5, 6)),
    ("weeks", 2, (1, 5)), ("months", 1, 1), ("months", 99, 31), ("months", 7, 15), ("months", 1, 1, 0),
    ("months", 99, 5, 6), ("months", 3, -1, 0), ("months", 3, -1, 6), ("months", 1, 2, 3), ("months", 1, 3, 3),
    ("months", 1, 4, 3),
)
# Of no kind that a rule holds anywhere in the place of a number.
NO_NUMBERS = (None, True, False, "", "1", "5", (), (1,), [], [1], HUGE, -HUGE, -7, -1)


def with_part(place, part):
    """The rule with another thing in one of its five places."""
    return RULE[:place] + (part,) + RULE[place + 1:]


class Rules(unittest.TestCase):

    def right(self, thing):
        self.assertIs(is_rule(thing), True, thing)

    def wrong(self, thing):
        self.assertIs(is_rule(thing), False, thing)

    def test_each_how_with_each_end(self):
        for how in HOWS:
            for end in (None, ("times", 1), ("times", 1000), ("until", 9198), ("until", 99990), ("until", 9300)):
                self.right((9198, 540, 60, how, end))

    def test_first_minute_and_length_at_their_bounds(self):
        for first in (2, 3, 99989, 99990):
            for minute in (0, 1439):
                for length in (1, 1440):
                    self.right((first, minute, length, ("once",), None))
        self.right((2, 0, 1, ("once",), ("until", 2)))
        self.right((99990, 0, 1, ("once",), ("until", 99990)))

    def test_first_that_is_none(self):
        for first in (1, 0, 99991, 99999, 100000) + NO_NUMBERS:
            self.wrong(with_part(0, first))
            self.wrong((first, 540, 60, ("once",), None))

    def test_minute_that_is_none(self):
        for minute in (1440, 1441, 86400) + NO_NUMBERS:
            self.wrong(with_part(1, minute))

    def test_length_that_is_none(self):
        for length in (0, 1441, 1442, 86400) + NO_NUMBERS:
            self.wrong(with_part(2, length))

    def test_how_of_no_kind(self):
        for how in (None, True, 5, "once", "days", (), [], ("",), ("twice",), ("day", 1), ("week", 1, (0,)), ("Once",),
                    ("years", 1), ("month", 1, 1), (None,), (1,), (("once",),), (["once"],), ("off",), ("times", 3),
                    ("until", 9300), (None, 1), (1, 1), ("once ",), ("days\n", 1), nested(25, "once", tuple)):
            self.wrong(with_part(3, how))

    def test_how_as_a_list(self):
        for how in HOWS:
            self.wrong(with_part(3, list(how)))

    def test_how_with_one_thing_more_and_one_fewer(self):
        for how in HOWS:
            for more in (None, 1, (0,), "once"):
                if how[0] != "months" or len(how) == 4 or more != 1:
                    self.wrong(with_part(3, how + (more,)))
            if len(how) != 4:
                self.wrong(with_part(3, how[:-1]))
        for how in (("days",), ("weeks",), ("weeks", 1), ("months",), ("months", 1), ("months", 1, 2, 3, 4)):
            self.wrong(with_part(3, how))
        # Without its weekday it is one of a date; a date and a weekday are which one of it.
        self.right(with_part(3, ("months", 1, 5)))
        self.right(with_part(3, ("months", 1, 5, 1)))
        self.wrong(with_part(3, ("months", 1, -1)))
        self.wrong(with_part(3, ("months", 1, 6, 1)))

    def test_n_that_is_none(self):
        for n in (0, 100, 101) + NO_NUMBERS:
            for how in (("days", n), ("weeks", n, (0,)), ("months", n, 1), ("months", n, 1, 1)):
                self.wrong(with_part(3, how))

    def test_weekdays_that_are_none(self):
        for weekdays in ((), [0], [], None, 0, "mo", (7,), (-1,), (0, 7), (-1, 0), (0, 0), (1, 0), (0, 2, 1), (0, 1, 1),
                         (6, 0), (0, 1, 2, 3, 4, 5, 6, 6), (0, 1, 2, 3, 4, 5, 6, 7), (True,), (0, True), (False, 1),
                         ("0",), (None,), ((0,),), ([0],), (0, None), (0, "1"), (HUGE,), (-HUGE, 0)):
            self.wrong(with_part(3, ("weeks", 1, weekdays)))

    def test_date_that_is_none(self):
        for date in (0, 32, 33) + NO_NUMBERS:
            self.wrong(with_part(3, ("months", 1, date)))

    def test_which_that_is_none(self):
        for which in (0, 6, -2, -5, 31) + tuple(thing for thing in NO_NUMBERS if thing != -1):
            self.wrong(with_part(3, ("months", 1, which, 1)))

    def test_weekday_that_is_none(self):
        for weekday in (7, 8) + NO_NUMBERS:
            self.wrong(with_part(3, ("months", 1, 1, weekday)))
            self.wrong(with_part(3, ("months", 1, -1, weekday)))

    def test_end_of_no_kind(self):
        for end in (False, True, 0, 5, "", "None", (), [], ("times",), ("until",), ("times", 5, 5), ("until", 9300, 1),
                    ("time", 5), ("Times", 5), ("till", 9300), (None, 5), (5, "times"), ("", 5), (None,), (None, None),
                    ["times", 5], ["until", 9300], (("times", 5),), (("times",), 5), ("once",), ("days", 5)):
            self.wrong(with_part(4, end))

    def test_count_that_is_none(self):
        for count in (0, 1001, 1002, 99990) + NO_NUMBERS:
            self.wrong(with_part(4, ("times", count)))

    def test_end_day_that_is_none(self):
        for day in (9197, 2, 0, 99991, 99999) + NO_NUMBERS:
            self.wrong(with_part(4, ("until", day)))

    def test_a_list_and_one_thing_more_and_one_fewer(self):
        self.wrong(list(RULE))
        self.wrong(RULE + (None,))
        self.wrong(RULE[:-1])
        self.wrong(RULE[1:])
        self.wrong((RULE,))
        self.wrong(RULE[:3] + (RULE[3:],))

    def test_anything(self):
        for thing, same in zip(anything(), anything()):
            self.wrong(thing)
            self.wrong((thing,) * 5)
            for place in range(4):
                if type(thing) is not int:
                    self.wrong(with_part(place, thing))
            if thing is not None:
                self.wrong(with_part(4, thing))
            self.assertEqual(thing, same)
        self.wrong(with_part(1, MANY_FIGURES))

    def test_own_classes_of_the_plain_kinds(self):
        how = OwnTuple([OwnText("weeks"), OwnWhole(2), OwnTuple([OwnWhole(0), OwnWhole(3)])])
        end = OwnTuple([OwnText("until"), OwnWhole(9300)])
        self.right(OwnTuple([OwnWhole(9198), OwnWhole(0), OwnWhole(5), how, end]))

    def test_who_asks_again_is_told_the_same(self):
        for again in range(2):
            self.right(RULE)
            self.wrong(RULE[:4])


if __name__ == "__main__":
    unittest.main()
