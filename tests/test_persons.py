"""Point [30], and the interface's part of guestcopies/persons.py."""

import random
import unittest

from guestcopies.persons import bar, is_person
from plainpersons import plain_bar
from things import HUGE, anything, nested, own, plain_kinds

FIRST, LAST = 1440, 143998559
CLOCK = ((0, 0),)
WHOLE = ((0, 1440),) * 7
NEVER = (None,) * 7
OFFICE = ((540, 1020),) * 5 + (None, None)
MONDAY = 1440 * 9198


def person_of(hours=OFFICE, busy=(), clock=CLOCK):
    return (clock, hours, tuple(busy))


class IsPerson(unittest.TestCase):

    def right(self, thing):
        self.assertIs(is_person(thing), True, thing)

    def wrong(self, thing):
        self.assertIs(is_person(thing), False, thing)

    def test_persons(self):
        for hours in (WHOLE, NEVER, OFFICE, ((0, 1),) * 7, ((1439, 1440),) * 7, (None,) * 6 + ((5, 6),)):
            for busy in ((), ((FIRST, 1),), ((LAST, 1440),), ((9000, 60), (5000, 5)), ((9000, 60),) * 200):
                self.right((CLOCK, hours, busy))
                self.right((((0, 840), (5, -840)), hours, busy))

    def test_clocks_that_are_none(self):
        for clock in ((), None, ((1, 0),), ((0, 841),), [(0, 0)], ((0, 0), (0, 0)), ((0, True),)):
            self.wrong((clock, OFFICE, ()))

    def test_hours_of_too_many_or_too_few_days(self):
        for many in (0, 1, 6, 8, 14):
            self.wrong((CLOCK, ((540, 1020),) * many, ()))
            self.wrong((CLOCK, (None,) * many, ()))

    def test_hours_that_are_none(self):
        for span in ((540, 540), (541, 540), (-1, 540), (540, 1441), (1440, 1440), (0, 0), (1440, 1441), (HUGE, HUGE + 1),
                     (-HUGE, 0), (True, 540), (False, 540), (0, True), ("540", 1020), (540, "1020"), (None, 540), (540, None),
                     (540,), (540, 1020, 0), (), [540, 1020], [], "540", 540, True, False, 0, (540, (1020,)), ((540, 1020),)):
            for at in range(7):
                self.wrong((CLOCK, OFFICE[:at] + (span,) + OFFICE[at + 1:], ()))

    def test_busy_times_that_are_none(self):
        for time in ((FIRST - 1, 1), (0, 1), (LAST + 1, 1), (-HUGE, 1), (HUGE, 1), (9000, 0), (9000, -1), (9000, 1441), (9000, HUGE),
                     (True, 1), (9000, True), (None, 5), (9000, None), ("9000", 5), (9000, "5"), (9000,), (9000, 5, 5), (),
                     [9000, 5], None, 9000, "", ((9000, 5),), ((9000,), 5)):
            self.wrong((CLOCK, OFFICE, (time,)))
            self.wrong((CLOCK, OFFICE, ((9000, 5), time)))
            self.wrong((CLOCK, OFFICE, (time, (9000, 5))))

    def test_too_many_busy_times(self):
        for many in (201, 202, 400):
            self.wrong((CLOCK, OFFICE, ((9000, 5),) * many))

    def test_lists_in_the_place_of_tuples(self):
        for thing in ([CLOCK, OFFICE, ()], (CLOCK, list(OFFICE), ()), (CLOCK, OFFICE, []), (list(CLOCK), OFFICE, ()),
                      (CLOCK, OFFICE, [(9000, 5)]), (CLOCK, OFFICE, ([9000, 5],)), (CLOCK, ([540, 1020],) * 7, ())):
            self.wrong(thing)

    def test_one_thing_more_and_one_fewer(self):
        for thing in ((CLOCK, OFFICE), (CLOCK, OFFICE, (), ()), (CLOCK, OFFICE, (), None), (CLOCK,), (OFFICE, CLOCK, ()),
                      (CLOCK, (), OFFICE), ((CLOCK, OFFICE, ()),)):
            self.wrong(thing)

    def test_things_of_any_kind_anywhere(self):
        for thing in anything():
            self.wrong(thing)
            self.wrong((thing, OFFICE, ()))
            self.wrong((CLOCK, thing, ()))
            # A busy time may be among these things.
            if thing != (2001, 1):
                self.wrong((CLOCK, OFFICE, (thing,)))
            if thing != ():
                self.wrong((CLOCK, OFFICE, thing))
            if thing is not None:
                self.wrong((CLOCK, OFFICE[:3] + (thing,) + OFFICE[4:], ()))
        self.wrong(nested(30, person_of(), tuple))

    def test_own_classes_of_the_plain_kinds(self):
        self.right(own(person_of(busy=((9000, 5),))))


class Bar(unittest.TestCase):

    def compared(self, person, moment, length):
        found = bar(person, moment, length)
        self.assertEqual(found, plain_bar(person, moment, length), (person, moment, length))
        return found

    def test_at_the_edges_of_the_hours(self):
        person = person_of()
        for minute, length, found in ((540, 480, None), (540, 481, "hours"), (539, 480, "hours"), (539, 1, "hours"), (540, 1, None),
                                      (1019, 1, None), (1019, 2, "hours"), (1020, 1, "hours"), (600, 60, None), (0, 1440, "hours")):
            self.assertEqual(self.compared(person, MONDAY + minute, length), found)

    def test_weekdays(self):
        person = person_of()
        for day in range(14):
            found = self.compared(person, MONDAY + 1440 * day + 600, 60)
            self.assertEqual(found, "hours" if day % 7 > 4 else None)
        for length in (1, 60, 1440):
            self.assertEqual(self.compared(person_of(NEVER), MONDAY, length), "hours")

    def test_over_midnight_and_several_days(self):
        whole = person_of(WHOLE)
        for minute in (0, 1, 700, 1439):
            for length in (1, 2, 1439, 1440):
                self.assertEqual(self.compared(whole, MONDAY + minute, length), None)
        evenings = person_of(((0, 60),) + ((1380, 1440),) + ((0, 60),) + ((1380, 1440), None, None, None))
        for day in range(7):
            for minute in (1379, 1380, 1439):
                for length in (1, 2, 60, 61, 120, 121):
                    self.compared(evenings, MONDAY + 1440 * day + minute, length)
        self.assertEqual(self.compared(evenings, MONDAY + 1440 + 1380, 120), None)
        self.assertEqual(self.compared(evenings, MONDAY + 1440 + 1380, 121), "hours")
        open_saturday = person_of(((0, 1440),) * 6 + (None,))
        self.assertEqual(self.compared(open_saturday, MONDAY + 5 * 1440 + 1400, 40), None)
        self.assertEqual(self.compared(open_saturday, MONDAY + 5 * 1440 + 1400, 41), "hours")
        self.assertEqual(self.compared(open_saturday, MONDAY - 1, 2), "hours")

    def test_the_first_and_the_last_minute_of_a_day(self):
        for hours, found in (((1, 1440), ("hours", "hours", None, None)), ((0, 1439), ("hours", None, "hours", None)),
                             ((0, 1440), (None, None, None, None)), ((1, 1439), ("hours", "hours", "hours", None))):
            person = person_of((hours,) * 7)
            times = ((MONDAY - 60, 120), (MONDAY, 60), (MONDAY - 60, 60), (MONDAY + 1, 1438))
            self.assertEqual(tuple(self.compared(person, moment, length) for moment, length in times), found)

    def test_hours_by_the_persons_clock(self):
        for offset in (-840, -60, 0, 60, 840):
            person = person_of(clock=((0, offset),))
            self.assertEqual(self.compared(person, MONDAY + 540 - offset, 480), None)
            self.assertEqual(self.compared(person, MONDAY + 539 - offset, 1), "hours")
            self.assertEqual(self.compared(person, MONDAY + 1020 - offset, 1), "hours")

    def test_over_turns_of_the_clock(self):
        turn = MONDAY + 600
        forward, back = ((0, 0), (turn, 60)), ((0, 0), (turn, -60))
        # Put forward at ten, the office closes an hour earlier by the common clock; put back, an hour later.
        for clock, length in ((forward, 420), (back, 540)):
            person = person_of(clock=clock)
            self.assertEqual(self.compared(person, MONDAY + 540, length), None)
            self.assertEqual(self.compared(person, MONDAY + 540, length + 1), "hours")
        # Put back to ahead of nine amid the time.
        person = person_of(clock=((0, 0), (turn, -61)))
        self.assertEqual(self.compared(person, MONDAY + 540, 60), None)
        self.assertEqual(self.compared(person, MONDAY + 540, 61), "hours")
        self.assertEqual(self.compared(person, turn, 1), "hours")
        self.assertEqual(self.compared(person, turn + 1, 1), None)

    def test_what_is_leapt_over_never_comes(self):
        # From ten on Monday to midnight of Tuesday; behind ten it is closed.
        turn = MONDAY + 600
        clock = ((0, 0), (turn, 840))
        mornings = person_of(((0, 600),) * 7, clock=clock)
        for moment, length, found in ((turn - 60, 60, None), (turn - 60, 61, None), (turn - 60, 660, None), (turn - 60, 661, "hours"),
                                      (turn, 600, None), (turn, 601, "hours"), (turn - 600, 1200, None), (turn - 601, 1200, "hours")):
            self.assertEqual(self.compared(mornings, moment, length), found)
        monday_only = person_of(((0, 600),) + (None,) * 6, clock=clock)
        self.assertEqual(self.compared(monday_only, turn - 5, 5), None)
        self.assertEqual(self.compared(monday_only, turn - 5, 6), "hours")

    def test_forward_and_back_amid_the_time(self):
        person = person_of(((0, 700),) + (None,) * 6, clock=((0, 0), (MONDAY + 600, 20), (MONDAY + 620, -300)))
        self.assertEqual(self.compared(person, MONDAY + 550, 450), None)
        self.assertEqual(self.compared(person, MONDAY + 550, 451), "hours")
        person = person_of(((0, 700),) + (None,) * 6, clock=((0, 0), (MONDAY + 600, 101), (MONDAY + 601, 0)))
        self.assertEqual(self.compared(person, MONDAY + 550, 50), None)
        self.assertEqual(self.compared(person, MONDAY + 550, 51), "hours")
        self.assertEqual(self.compared(person, MONDAY + 550, 52), "hours")
        self.assertEqual(self.compared(person, MONDAY + 601, 99), None)

    def test_at_the_edges_of_busy_times(self):
        person = person_of(WHOLE, ((MONDAY + 600, 60),))
        for minute, length, found in ((599, 1, None), (599, 2, "busy"), (600, 1, "busy"), (659, 1, "busy"), (660, 1, None),
                                      (540, 60, None), (540, 61, "busy"), (0, 1440, "busy"), (630, 10, "busy"), (660, 1440, None)):
            self.assertEqual(self.compared(person, MONDAY + minute, length), found)

    def test_busy_times_in_any_order_and_by_no_clock(self):
        busy = ((MONDAY + 900, 10), (MONDAY + 600, 60), (MONDAY + 590, 30), (MONDAY, 1), (MONDAY + 600, 60))
        for clock in (CLOCK, ((0, 300),), ((0, 0), (MONDAY + 500, 600))):
            for minute in range(580, 680, 7):
                for length in (1, 10, 30):
                    self.compared(person_of(WHOLE, busy, clock), MONDAY + minute, length)

    def test_hours_ahead_of_busy(self):
        person = person_of(OFFICE, ((MONDAY + 500, 100),))
        self.assertEqual(self.compared(person, MONDAY + 530, 20), "hours")
        self.assertEqual(self.compared(person, MONDAY + 540, 20), "busy")
        self.assertEqual(self.compared(person_of(NEVER, ((MONDAY, 60),)), MONDAY, 60), "hours")

    def test_two_hundred_busy_times_and_forty_turns(self):
        clock = tuple((0 if place == 0 else MONDAY + 30 * place, 20 * (-1) ** place) for place in range(40))
        person = person_of(((30, 1400),) * 7, tuple((MONDAY + 3000 + 7 * place, 3) for place in range(200)), clock)
        for moment in range(MONDAY - 100, MONDAY + 4000, 33):
            for length in (1, 4, 100):
                self.compared(person, moment, length)

    def test_the_first_and_the_last_moments(self):
        for clock in (CLOCK, ((0, -840),), ((0, 840),)):
            for moment, length in ((FIRST, 1), (FIRST, 1440), (LAST - 1, 1), (LAST - 1440, 1440)):
                for hours in (WHOLE, OFFICE, NEVER):
                    self.compared(person_of(hours, ((FIRST, 1), (LAST, 1440)), clock), moment, length)

    def test_drawn(self):
        chance = random.Random(30)
        seen = []
        for again in range(1500):
            hours = tuple(chance.choice((None, (0, 1440), (0, 1440), (540, 1020), (0, 700), (600, 1440))) for day in range(7))
            turns = sorted(chance.sample(range(MONDAY, MONDAY + 3000), chance.randint(0, 3)))
            clock = ((0, chance.choice((0, 60, -840))),) + tuple((turn, chance.choice((0, 60, 120, -400, 840))) for turn in turns)
            busy = tuple((MONDAY + chance.randint(-100, 3000), chance.choice((1, 60, 1440))) for step in range(chance.randint(0, 2)))
            person = (clock, hours, busy)
            self.assertTrue(is_person(person))
            seen.append(self.compared(person, MONDAY + chance.randint(0, 3000), chance.choice((1, 30, 200, 1440))))
        for found in ("hours", "busy", None):
            self.assertGreater(seen.count(found), 100)

    def test_plain_and_the_same(self):
        person = person_of(OFFICE, ((MONDAY + 600, 60),))
        for minute in (0, 560, 600):
            found = bar(own(person), own(MONDAY + minute), own(20))
            self.assertTrue(plain_kinds(found))
            self.assertEqual([found] * 2, [bar(person, MONDAY + minute, 20), bar(person, MONDAY + minute, 20)])


if __name__ == "__main__":
    unittest.main()
