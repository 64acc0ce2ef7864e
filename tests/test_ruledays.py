"""Point [9], and the interface's part of guestcopies/ruledays.py."""

import random
import unittest

from guestcopies.ruledays import day_at, days_of, is_day, last_day, place_of
from guestcopies.rules import is_rule
from plaindays import FACTS, plain_days
from things import OwnText, OwnTuple, OwnWhole, plain_kinds

LATEST = 99990
FEBRUARY_2026 = 9162
HOWS = (
    ("once",), ("days", 1), ("days", 2), ("days", 7), ("days", 98), ("days", 99),
    ("weeks", 1, (0,)), ("weeks", 1, (6,)), ("weeks", 1, (0, 1, 2, 3, 4, 5, 6)), ("weeks", 2, (0, 2, 4)),
    ("weeks", 3, (1, 3, 5, 6)), ("weeks", 99, (0, 6)), ("weeks", 98, (2,)),
    ("months", 1, 1), ("months", 2, 28), ("months", 1, 29), ("months", 1, 30), ("months", 1, 31), ("months", 12, 29),
    ("months", 12, 30), ("months", 99, 31), ("months", 7, 31), ("months", 5, 29), ("months", 99, 15),
    ("months", 1, 1, 0), ("months", 1, 2, 6), ("months", 2, 3, 3), ("months", 1, 4, 2), ("months", 1, 5, 0),
    ("months", 3, 5, 4), ("months", 12, 5, 6), ("months", 99, 5, 1), ("months", 1, -1, 4), ("months", 12, -1, 0),
    ("months", 99, -1, 6),
)
# A Wednesday at the beginning, a Monday, a Sunday, the end of a month, in February, a leap day, near the end of all.
FIRSTS = (2, 9198, 9204, 9220, FEBRUARY_2026 + 13, 1154, 99900, LATEST)


def rule_of(first, how, end=None):
    return (first, 540, 60, how, end)


def all_days(rule):
    return days_of(rule, 0, 99999)


class Compared(unittest.TestCase):
    """Rules of each kind beside a going through of all days."""

    def compared(self, rule, chance):
        self.assertTrue(is_rule(rule), rule)
        days = plain_days(rule)
        self.assertEqual(all_days(rule), days, rule)
        self.assertEqual(last_day(rule), days[-1] if days else None, rule)
        self.places_compared(rule, days, chance)
        self.single_days_compared(rule, days, chance)
        for again in range(6):
            low = chance.choice((0, rule[0] - 2, rule[0], chance.randint(0, 99999)))
            high = min(99999, max(0, low + chance.choice((0, 1, 6, 40, 800, 99999))))
            expected = [day for day in days if low <= day <= high]
            self.assertEqual(days_of(rule, low, high), expected, (rule, low, high))

    def places_compared(self, rule, days, chance):
        places = [0, 1, 2, len(days) // 2, len(days) - 1, len(days) - 2]
        places += [chance.randrange(len(days)) for again in range(4) if days]
        for place in places:
            if 0 <= place < len(days):
                self.assertEqual(day_at(rule, place), days[place], (rule, place))
                self.assertEqual(place_of(rule, days[place]), place, (rule, days[place]))
                self.assertIs(is_day(rule, days[place]), True)
        for place in (len(days), len(days) + 1, len(days) + 1000, 99990, 10 ** 6):
            self.assertIsNone(day_at(rule, place), (rule, place))

    def single_days_compared(self, rule, days, chance):
        known = set(days)
        asked = [rule[0] + step for step in range(-9, 40)] + [chance.randint(0, 99999) for again in range(20)]
        asked += [day + step for day in days[-2:] for step in range(-8, 9)]
        for day in asked:
            if 0 <= day <= 99999:
                self.assertIs(is_day(rule, day), day in known, (rule, day))
                self.assertEqual(place_of(rule, day) is None, day not in known, (rule, day))

    def test_without_an_end(self):
        chance = random.Random(9)
        for place, how in enumerate(HOWS):
            for first in (FIRSTS[place % len(FIRSTS)], chance.randint(2, 50000), 99900, LATEST):
                self.compared(rule_of(first, how), chance)

    def test_with_a_count(self):
        chance = random.Random(99)
        for how in HOWS:
            first = chance.choice(FIRSTS)
            for count in (1, 2, 7, 1000):
                self.compared(rule_of(first, how, ("times", count)), chance)

    def test_until_a_day(self):
        chance = random.Random(999)
        for how in HOWS:
            first = chance.choice(FIRSTS)
            for day in (first, first + 1, first + 5, first + 31, first + 3000, LATEST):
                self.compared(rule_of(first, how, ("until", min(day, LATEST))), chance)

    def test_drawn_rules(self):
        chance = random.Random(2026)
        for again in range(60):
            first, n = chance.randint(2, LATEST), chance.randint(1, 99)
            how = chance.choice((
                ("days", n), ("weeks", n, tuple(sorted(chance.sample(range(7), chance.randint(1, 7))))),
                ("months", n, chance.randint(1, 31)), ("months", n, chance.choice((1, 2, 3, 4, 5, -1)),
                                                       chance.randint(0, 6))))
            end = chance.choice((None, ("times", chance.randint(1, 1000)), ("until", chance.randint(first, LATEST))))
            self.compared(rule_of(first, how, end), chance)


class Days(unittest.TestCase):
    """Days by hand, so that nothing hangs on the going through alone."""

    def test_once(self):
        for end in (None, ("times", 1), ("times", 1000), ("until", 9198), ("until", 9300)):
            rule = rule_of(9198, ("once",), end)
            self.assertEqual(all_days(rule), [9198])
            self.assertEqual([day_at(rule, 0), day_at(rule, 1), place_of(rule, 9198), last_day(rule)],
                             [9198, None, 0, 9198])

    def test_days(self):
        self.assertEqual(days_of(rule_of(2, ("days", 99)), 0, 300), [2, 101, 200, 299])
        self.assertEqual(all_days(rule_of(99988, ("days", 1))), [99988, 99989, 99990])
        self.assertEqual(all_days(rule_of(99988, ("days", 2))), [99988, 99990])
        self.assertEqual(all_days(rule_of(99988, ("days", 3))), [99988])
        self.assertEqual(len(all_days(rule_of(2, ("days", 1)))), 99989)

    def test_weekdays_of_the_first_week_that_are_ahead_of_first(self):
        # 9200 is a Wednesday.
        rule = rule_of(9200, ("weeks", 2, (0, 2, 4)), ("times", 4))
        self.assertEqual(all_days(rule), [9200, 9202, 9212, 9214])
        self.assertEqual([place_of(rule, day) for day in (9198, 9200, 9202, 9212, 9216)], [None, 0, 1, 2, None])
        self.assertEqual([day_at(rule, place) for place in range(5)], [9200, 9202, 9212, 9214, None])

    def test_first_that_is_none_of_the_days(self):
        self.assertEqual(all_days(rule_of(9199, ("weeks", 1, (0,)), ("times", 2))), [9205, 9212])
        self.assertEqual(all_days(rule_of(9199, ("weeks", 3, (0,)), ("times", 2))), [9219, 9240])

    def test_weeks_go_from_monday_to_sunday(self):
        # 9204 is a Sunday: the Monday behind it is in the next week.
        self.assertEqual(all_days(rule_of(9204, ("weeks", 2, (0, 6)), ("times", 3))), [9204, 9212, 9218])

    def test_dates_that_months_lack(self):
        january = 9131
        self.assertEqual(all_days(rule_of(january, ("months", 1, 31), ("times", 3))), [9161, 9220, 9281])
        self.assertEqual(all_days(rule_of(january, ("months", 1, 30), ("times", 2))), [9160, 9219])
        self.assertEqual(all_days(rule_of(january, ("months", 1, 29), ("times", 2))), [9159, 9218])

    def test_february_alone(self):
        leap_days = all_days(rule_of(FEBRUARY_2026, ("months", 12, 29)))
        self.assertEqual(leap_days[:2], [9920, 11381])
        self.assertEqual(len(leap_days), len([fact for fact in FACTS[FEBRUARY_2026:LATEST + 1]
                                              if fact[0] % 12 == 1 and fact[1] == 29]))
        self.assertEqual(len(all_days(rule_of(FEBRUARY_2026, ("months", 12, 28)))), 249)

    def test_the_month_of_first_where_the_day_is_ahead_of_first(self):
        self.assertEqual(all_days(rule_of(9198, ("months", 2, 8), ("times", 1))), [9258])
        self.assertEqual(all_days(rule_of(9198, ("months", 2, 9), ("times", 1))), [9198])

    def test_which_one_of_a_weekday(self):
        # March 2026 begins on a Sunday and has five Sundays, Mondays and Tuesdays.
        march = 9190
        for which, day in ((1, 9190), (2, 9197), (3, 9204), (4, 9211), (5, 9218), (-1, 9218)):
            self.assertEqual(all_days(rule_of(march, ("months", 1, which, 6), ("times", 1))), [day])
        for which, day in ((1, 9193), (4, 9214), (-1, 9214)):
            self.assertEqual(all_days(rule_of(march, ("months", 1, which, 2), ("times", 1))), [day])
        self.assertEqual(all_days(rule_of(march, ("months", 1, 5, 2), ("times", 1))), [9249])

    def test_no_day_at_all(self):
        for rule in (rule_of(9200, ("weeks", 1, (0,)), ("until", 9204)), rule_of(LATEST, ("weeks", 1, (0,))),
                     rule_of(FEBRUARY_2026, ("months", 12, 31)), rule_of(FEBRUARY_2026, ("months", 12, 30), ("times", 9)),
                     rule_of(LATEST, ("months", 1, 1)), rule_of(9200, ("months", 1, -1, 0), ("until", 9200)),
                     rule_of(9198, ("weeks", 99, (1,)), ("until", 9198))):
            self.assertTrue(is_rule(rule))
            self.assertEqual(all_days(rule), [])
            self.assertIsNone(last_day(rule))
            self.assertIsNone(day_at(rule, 0))
            self.assertIsNone(place_of(rule, rule[0]))
            self.assertIs(is_day(rule, rule[0]), False)

    def test_a_count_that_is_never_reached(self):
        rule = rule_of(99960, ("days", 10), ("times", 1000))
        self.assertEqual(all_days(rule), [99960, 99970, 99980, 99990])
        self.assertEqual([last_day(rule), day_at(rule, 3), day_at(rule, 4), day_at(rule, 999)], [99990, 99990, None, None])
        rule = rule_of(FEBRUARY_2026, ("months", 99, 29), ("times", 1000))
        self.assertEqual(last_day(rule), plain_days(rule)[-1])

    def test_until_the_day_itself_and_the_day_ahead(self):
        self.assertEqual(all_days(rule_of(9198, ("days", 7), ("until", 9205))), [9198, 9205])
        self.assertEqual(all_days(rule_of(9198, ("days", 7), ("until", 9204))), [9198])


class LowAndHigh(unittest.TestCase):

    def test_both_are_too(self):
        rule = rule_of(9198, ("days", 2))
        self.assertEqual(days_of(rule, 9200, 9204), [9200, 9202, 9204])
        self.assertEqual(days_of(rule, 9200, 9200), [9200])
        self.assertEqual(days_of(rule, 9201, 9201), [])
        self.assertEqual(days_of(rule, 0, 9197), [])
        self.assertEqual(days_of(rule, 99991, 99999), [])

    def test_low_beyond_high(self):
        for how in HOWS:
            for end in (None, ("times", 5), ("until", 9300)):
                rule = rule_of(9198, how, end)
                for low, high in ((9199, 9198), (9300, 9198), (99999, 0), (9198, 9197), (1, 0)):
                    self.assertEqual(days_of(rule, low, high), [])

    def test_days_beyond_the_numbered_ones_raise_no_error(self):
        for how in HOWS:
            rule = rule_of(9198, how)
            self.assertEqual(days_of(rule, -50, 120000), all_days(rule))
            for day in (-1, -8000, 100000, 123456):
                self.assertIs(is_day(rule, day), False)
                self.assertIsNone(place_of(rule, day))
            for place in (-1, -2, -99999, 10 ** 9):
                self.assertIsNone(day_at(rule, place))

    def test_rules_somewhat_beyond_raise_no_error(self):
        hows = (("days", 0), ("days", 100), ("weeks", 0, (0,)), ("weeks", 100, (0, 7)), ("weeks", 1, ()),
                ("months", 0, 1), ("months", 100, 32), ("months", 1, 0), ("months", 1, 6, 0), ("months", 1, 0, 0),
                ("months", 0, 5, 0), ("months", 1, -2, 0))
        for how in hows:
            for end in (None, ("times", 0), ("times", 1001), ("until", 9000), ("until", 99999)):
                for first in (0, 1, 9198, 99991, 99999):
                    rule = rule_of(first, how, end)
                    days = days_of(rule, 0, 99999)
                    self.assertIs(type(days), list)
                    self.assertIs(type(is_day(rule, 9205)), bool)
                    place_of(rule, 9205), day_at(rule, 3), last_day(rule)


class PlainAndTheSame(unittest.TestCase):

    def test_a_told_list_that_is_changed(self):
        for how in HOWS:
            rule = rule_of(9198, how, ("times", 20))
            before = days_of(rule, 9000, 20000)
            told = days_of(rule, 9000, 20000)
            told.append(5)
            told[:1] = [7, 8]
            self.assertEqual(days_of(rule, 9000, 20000), before)
            self.assertEqual(rule, rule_of(9198, how, ("times", 20)))

    def test_what_is_told_is_of_the_plain_kinds(self):
        for how in HOWS:
            own = OwnTuple([OwnText(how[0])] + [OwnTuple(OwnWhole(day) for day in part) if isinstance(part, tuple)
                                                else OwnWhole(part) for part in how[1:]])
            for end in (None, OwnTuple([OwnText("times"), OwnWhole(2)]), OwnTuple([OwnText("until"), OwnWhole(9300)])):
                rule = OwnTuple([OwnWhole(9198), OwnWhole(540), OwnWhole(60), own, end])
                days = days_of(rule, OwnWhole(9198), OwnWhole(9300))
                self.assertEqual(days, days_of(rule_of(9198, how, end), 9198, 9300))
                some = OwnWhole(days[0]) if days else OwnWhole(9198)
                told = [days, is_day(rule, some), place_of(rule, some), day_at(rule, OwnWhole(0)), last_day(rule)]
                self.assertTrue(plain_kinds(told), (how, told))

    def test_who_asks_again_is_told_the_same(self):
        rules = [rule_of(9198, how, end) for how in HOWS for end in (None, ("times", 3), ("until", 9300))]
        first = [(days_of(rule, 9198, 9400), last_day(rule), day_at(rule, 2)) for rule in rules]
        second = [(days_of(rule, 9198, 9400), last_day(rule), day_at(rule, 2)) for rule in reversed(rules)]
        self.assertEqual(first, second[::-1])


if __name__ == "__main__":
    unittest.main()
