"""Point [4], and the interface's part of guestcopies/days.py."""

import datetime
import unittest

from guestcopies.days import date_of, day_of, first_of, month_length, month_of, weekday
from guestcopies.errors import GuestError, NoDate
from things import HUGE, OwnTuple, OwnWhole, anything, plain_kinds

LAST_DAY = 99999
LAST_MONTH = 3285
FIRST = datetime.date(2001, 1, 1)


def calendar_date(day):
    """The date of a day by Python's own calendar."""
    date = FIRST + datetime.timedelta(days=day)
    return (date.year, date.month, date.day)


def calendar_day(year, month, day):
    """The day of a date by Python's own calendar."""
    return (datetime.date(year, month, day) - FIRST).days


class Dates(unittest.TestCase):

    def test_ordinary_days(self):
        self.assertEqual(date_of(9198), (2026, 3, 9))
        self.assertEqual(day_of((2026, 3, 9)), 9198)
        self.assertEqual(date_of(31), (2001, 2, 1))
        self.assertEqual(date_of(365), (2002, 1, 1))

    def test_the_first_and_the_last_day_of_all(self):
        self.assertEqual(date_of(0), (2001, 1, 1))
        self.assertEqual(day_of((2001, 1, 1)), 0)
        self.assertEqual(date_of(LAST_DAY), (2274, 10, 16))
        self.assertEqual(day_of((2274, 10, 16)), LAST_DAY)

    def test_every_day(self):
        for day in range(LAST_DAY + 1):
            date = date_of(day)
            self.assertEqual(date, calendar_date(day))
            self.assertEqual(day_of(date), day)

    def test_februaries(self):
        for year, last in ((2001, 28), (2004, 29), (2100, 28), (2104, 29), (2200, 28), (2272, 29)):
            end = day_of((year, 2, last))
            self.assertEqual(date_of(end), (year, 2, last))
            self.assertEqual(date_of(end + 1), (year, 3, 1))
            self.assertRaises(NoDate, day_of, (year, 2, last + 1))

    def test_years_that_400_divides_have_the_leap_day(self):
        # No such year lies within the days, but months beyond them are reckoned without an error.
        self.assertEqual(month_length(12 * (2400 - 2001) + 1), 29)
        self.assertEqual(month_length(12 * (2300 - 2001) + 1), 28)
        self.assertEqual(month_length(-12 + 1), 29)

    def test_ends_of_months(self):
        for length, month in zip((31, 28, 31, 30, 31, 30, 31, 31, 30, 31, 30, 31), range(1, 13)):
            self.assertEqual(day_of((2023, month, length)), calendar_day(2023, month, length))
            self.assertRaises(NoDate, day_of, (2023, month, length + 1))

    def test_days_somewhat_beyond_are_reckoned_without_an_error(self):
        for day in (-1, -366, -146097, LAST_DAY + 1, 146096, 146097, 200000):
            self.assertEqual(date_of(day), calendar_date(day))


class WeekdaysAndMonths(unittest.TestCase):

    def test_weekdays(self):
        self.assertEqual([weekday(day) for day in range(8)], [0, 1, 2, 3, 4, 5, 6, 0])
        for day in (0, 9198, 12345, 54321, LAST_DAY):
            self.assertEqual(weekday(day), datetime.date(*calendar_date(day)).weekday())

    def test_months_of_days(self):
        for day, month in ((0, 0), (30, 0), (31, 1), (58, 1), (59, 2), (364, 11), (365, 12), (LAST_DAY, LAST_MONTH)):
            self.assertEqual(month_of(day), month)

    def test_every_month(self):
        for month in range(LAST_MONTH + 1):
            years, place = divmod(month, 12)
            first = calendar_day(2001 + years, place + 1, 1)
            behind = calendar_day(2001 + (month + 1) // 12, (month + 1) % 12 + 1, 1)
            self.assertEqual(first_of(month), first)
            self.assertEqual(month_length(month), behind - first)
            self.assertEqual(month_of(first), month)
            self.assertEqual(month_of(behind - 1), month)

    def test_the_last_month_is_told_whole(self):
        self.assertEqual(first_of(LAST_MONTH), LAST_DAY - 15)
        self.assertEqual(month_length(LAST_MONTH), 31)

    def test_months_somewhat_beyond_are_reckoned_without_an_error(self):
        self.assertEqual((first_of(-1), month_length(-1), month_of(-1)), (-31, 31, -1))
        self.assertEqual(first_of(LAST_MONTH + 1), LAST_DAY + 16)


class NoDates(unittest.TestCase):

    def refused(self, thing):
        with self.assertRaises(NoDate) as caught:
            day_of(thing)
        self.assertIs(type(caught.exception), NoDate)
        self.assertIsInstance(caught.exception, GuestError)

    def test_months_and_days_out_of_their_ranges(self):
        for wrong in (0, -1, 13, 14, -12, HUGE, -HUGE):
            self.refused((2020, wrong, 1))
        for wrong in (0, -1, 32, HUGE, -HUGE):
            self.refused((2020, 1, wrong))
        self.refused((2020, 4, 31))
        self.refused((2020, 4, 0))

    def test_dates_ahead_of_the_first_day_and_behind_the_last(self):
        for date in ((2000, 12, 31), (2000, 1, 1), (2274, 10, 17), (2274, 11, 1), (2275, 1, 1), (1, 1, 1), (0, 1, 1)):
            self.refused(date)
        for year in (-2001, 26, 9999, 10000, HUGE, -HUGE):
            self.refused((year, 3, 9))

    def test_truths_in_the_place_of_numbers(self):
        self.refused((2001, True, 1))
        self.refused((2001, 1, True))
        self.refused((2001, True, True))
        self.refused((True, 1, 1))
        self.refused((2001, False, 1))

    def test_other_kinds_in_the_place_of_numbers(self):
        for wrong in (None, "1", "", (1,), [1], ()):
            self.refused((wrong, 1, 1))
            self.refused((2001, wrong, 1))
            self.refused((2001, 1, wrong))

    def test_a_list_in_the_place_of_the_tuple(self):
        self.refused([2026, 3, 9])

    def test_too_many_and_too_few_numbers(self):
        for thing in ((), (2026,), (2026, 3), (2026, 3, 9, 0), (2026, 3, 9, 1, 1), (2026, 3, 9, None)):
            self.refused(thing)

    def test_anything(self):
        for thing, same in zip(anything(), anything()):
            self.refused(thing)
            self.assertEqual(thing, same)


class PlainAndTheSame(unittest.TestCase):

    def test_what_is_told_is_of_the_plain_kinds(self):
        told = [ask(OwnWhole(9198)) for ask in (date_of, weekday, month_of)]
        told += [ask(OwnWhole(302)) for ask in (first_of, month_length)]
        told += [day_of(OwnTuple([OwnWhole(2026), OwnWhole(3), OwnWhole(9)])), day_of((2001, 1, OwnWhole(1)))]
        self.assertEqual(told, [(2026, 3, 9), 0, 302, 9190, 31, 9198, 0])
        self.assertTrue(plain_kinds(told))

    def test_who_asks_again_is_told_the_same(self):
        for ask, thing in ((date_of, 777), (day_of, (2100, 3, 1)), (month_of, 777), (first_of, 99)):
            self.assertEqual(ask(thing), ask(thing))


if __name__ == "__main__":
    unittest.main()
