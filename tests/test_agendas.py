"""Points [28] and [29], and the interface's part of guestcopies/agendas.py."""

import itertools
import random
import unittest

from guestcopies.agendas import agenda, clashes
from guestcopies.tellings import is_telling
from plaindays import plain_days
from plaintellings import plain_told, slow_moment
from things import own, plain_kinds

CLOCK = ((0, 60),)
OFF = ("off",)
# By Mondays and Thursdays at nine, which is eight by the common clock; 9198 is a Monday.
RULE = (9198, 540, 60, ("weeks", 1, (0, 3)), None)
TELLING = (CLOCK, RULE, "room", ())
AT = 1440 * 9198 + 480
LAST = 143998559


def with_changes(*changes, telling=TELLING):
    return telling[:3] + (changes,)


def plain_agenda(some, low, high):
    """All meetings of all of the rules' days gone through."""
    found = []
    for name, telling in some:
        near = [day for day in plain_days(telling[1]) if 1440 * (day - 4) < high and 1440 * (day + 5) > low]
        for day in sorted(set(near) | {day for day, change in telling[3]}):
            meeting = plain_told(telling, day)
            if meeting is not None:
                moment = slow_moment(telling[0], 1440 * meeting[0] + meeting[1])
                if moment < high and moment + meeting[2] > low:
                    found.append((moment, meeting[2], name, meeting[3], day))
    return sorted(found)


class Agenda(unittest.TestCase):

    def compared(self, some, low, high):
        self.assertTrue(all(is_telling(telling) for name, telling in some))
        found = agenda(some, low, high)
        self.assertEqual(found, plain_agenda(some, low, high), (some, low, high))
        return found

    def test_none(self):
        self.assertEqual(agenda([], AT, AT + 100), [])
        self.assertEqual(self.compared([("a", TELLING)], AT + 60, AT + 3 * 1440), [])

    def test_of_one_telling(self):
        self.assertEqual(self.compared([("a", TELLING)], AT - 100, AT + 8 * 1440),
                         [(AT, 60, "a", "room", 9198), (AT + 3 * 1440, 60, "a", "room", 9201),
                          (AT + 7 * 1440, 60, "a", "room", 9205)])

    def test_the_edges(self):
        for low, high, many in ((AT, AT + 60, 1), (AT - 1, AT, 0), (AT - 1, AT + 1, 1), (AT + 59, AT + 60, 1),
                                (AT + 60, AT + 61, 0), (AT + 59, AT + 500, 1), (AT + 30, AT + 31, 1), (AT - 40000, AT, 0),
                                (AT - 39999, AT + 1, 1), (AT + 60, AT + 3 * 1440, 0), (AT + 60, AT + 3 * 1440 + 1, 1)):
            self.assertEqual(len(self.compared([("a", TELLING)], low, high)), many)

    def test_long_meetings_that_began_long_ahead(self):
        for minute in (0, 540, 1439):
            for offset in (-840, 0, 840):
                telling = (((0, offset),), (9198, minute, 1440, ("once",), None), "room", ())
                begin = 1440 * 9198 + minute - offset
                for low, high, many in ((begin + 1439, begin + 1440, 1), (begin + 1440, begin + 1500, 0), (begin - 50, begin, 0),
                                        (begin - 50, begin + 1, 1), (begin + 700, begin + 701, 1), (begin - 5000, begin + 5000, 1)):
                    self.assertEqual(len(self.compared([("a", telling)], low, high)), many)

    def test_several_tellings_sorted(self):
        other = (((0, 0),), (9198, 480, 60, ("days", 1), ("times", 5)), "hall", ())
        longer = (((0, 0),), (9198, 480, 90, ("days", 1), ("times", 2)), "attic", ())
        some = [("zed", other), ("b", TELLING), ("a", TELLING), ("c", longer)]
        found = self.compared(some, AT, AT + 2000)
        self.assertEqual(found, [(AT, 60, "a", "room", 9198), (AT, 60, "b", "room", 9198), (AT, 60, "zed", "hall", 9198),
                                 (AT, 90, "c", "attic", 9198), (AT + 1440, 60, "zed", "hall", 9199),
                                 (AT + 1440, 90, "c", "attic", 9199)])
        for order in itertools.permutations(some):
            self.assertEqual(agenda(list(order), AT, AT + 2000), found)

    def test_moved_into_and_out_of_the_time(self):
        telling = with_changes((9198, ("is", 2, 0, 1, "far")), (9201, OFF), (9205, ("is", 9198, 500, 60, "hall")),
                               (99988, ("is", 9199, 0, 1440, "attic")))
        found = self.compared([("a", telling)], AT - 1000, AT + 2000)
        self.assertEqual(found, [(1440 * 9198 + 440, 60, "a", "hall", 9205), (1440 * 9199 - 60, 1440, "a", "attic", 99988)])
        self.assertEqual(self.compared([("a", telling)], 2000, 3000), [(2820, 1, "a", "far", 9198)])
        self.assertEqual(self.compared([("a", telling)], AT + 4000, AT + 6000), [])

    def test_a_moved_day_is_told_once(self):
        for on in range(9190, 9207):
            telling = with_changes((9198, ("is", on, 540, 60, "hall")))
            for low in range(AT - 10 * 1440, AT + 10 * 1440, 500):
                self.compared([("a", telling)], low, low + 400)

    def test_a_hundred_changes(self):
        rule = (9131, 540, 60, ("months", 1, 31), ("times", 1000))
        days = plain_days(rule)[:100]
        telling = (CLOCK, rule, "room", tuple((day, ("is", 9198, 5 * place, 30, "hall")) for place, day in enumerate(days)))
        some = [("g" + letter, telling) for letter in "abcdefghijkl"]
        # An hour earlier by the common clock; seven of them end at the day's begin or ahead of it.
        self.assertEqual(len(self.compared(some, 1440 * 9198, 1440 * 9199)), 12 * 93)

    def test_clocks_put_forward_and_back(self):
        turn = 1440 * 9201 + 300
        for clock in (((0, 60), (turn, 120)), ((0, 120), (turn, 60)), ((0, -840), (turn, 840)), ((0, 840), (turn, -840)),
                      ((0, 0), (turn, 840), (turn + 30, -840), (turn + 60, 0))):
            for minute in (0, 330, 380, 540, 1439):
                for length in (1, 60, 1440):
                    telling = (clock, (9198, minute, length, ("days", 1), ("times", 6)), "room", ())
                    for low in range(turn - 3000, turn + 3000, 373):
                        self.compared([("a", telling)], low, low + 200)

    def test_the_first_and_the_last_moments(self):
        for first, low, high in ((2, 1440, 5000), (99990, LAST - 20000, LAST)):
            telling = (((0, -840),), (first, 0, 1440, ("days", 1), None), "room", ())
            self.assertTrue(self.compared([("a", telling), ("b", with_changes())], low, high))
        self.assertEqual(agenda([("a", TELLING)], 1440, 1441), [])

    def test_low_beyond_high(self):
        self.assertEqual(agenda([("a", TELLING)], AT + 40, AT + 20), [])

    def test_drawn(self):
        chance = random.Random(28)
        many = 0
        for again in range(300):
            some = []
            for name in ("c", "a", "b")[:chance.randint(1, 3)]:
                how = chance.choice((("days", 1), ("days", 3), ("weeks", 1, (0, 3)), ("weeks", 2, (5, 6)), ("months", 1, 5), ("once",)))
                rule = (99200 + chance.randint(0, 10), chance.randint(0, 1439), chance.choice((1, 60, 1440)), how, None)
                clock = ((0, chance.choice((-840, 0, 60))), (1440 * 99215 + chance.randint(-99, 99), chance.choice((840, 0, 120))))
                days = plain_days(rule)
                changes = [(day, chance.choice((OFF, ("is", chance.randint(99205, 99225), chance.randint(0, 1439), 600, "hall"))))
                           for day in sorted(chance.sample(days, min(len(days), 4)))]
                some.append((name, (clock, rule, "room", tuple(changes))))
            low = 1440 * 99215 + chance.randint(-6000, 6000)
            many += len(self.compared(some, low, low + chance.choice((1, 60, 3000, 40000))))
        self.assertGreater(many, 1000)


class Clashes(unittest.TestCase):

    def meeting(self, moment, length, day=9198):
        return (moment, length, "a", "room", day)

    def plain(self, rows):
        """By the minutes that both have."""
        minutes = [set(range(row[0], row[0] + row[1])) for row in rows]
        return sorted((place, other) for place in range(len(rows)) for other in range(place + 1, len(rows))
                      if minutes[place] & minutes[other])

    def compared(self, rows):
        found = clashes(list(rows))
        self.assertEqual(found, self.plain(rows))
        return found

    def test_none(self):
        self.assertEqual(clashes([]), [])
        self.assertEqual(clashes([self.meeting(AT, 60)]), [])

    def test_meetings_that_only_touch(self):
        self.assertEqual(self.compared([self.meeting(AT, 60), self.meeting(AT + 60, 60), self.meeting(AT - 1, 1)]), [])
        self.assertEqual(self.compared([self.meeting(AT + 59, 60), self.meeting(AT, 60)]), [(0, 1)])

    def test_one_within_the_other(self):
        self.assertEqual(self.compared([self.meeting(AT + 5, 1), self.meeting(AT, 60), self.meeting(AT + 59, 1)]), [(0, 1), (1, 2)])

    def test_alike_ones(self):
        self.assertEqual(self.compared([self.meeting(AT, 60)] * 3), [(0, 1), (0, 2), (1, 2)])

    def test_in_any_order(self):
        rows = [self.meeting(AT, 60), self.meeting(AT + 30, 60), self.meeting(AT + 70, 10), self.meeting(AT + 90, 5)]
        for order in itertools.permutations(rows):
            found = self.compared(order)
            self.assertEqual(len(found), 2)
            self.assertTrue(all(place < other for place, other in found))

    def test_four_hundred(self):
        rows = [self.meeting(AT + 7 * step, 8, 9198 + step) for step in range(400)]
        self.assertEqual(self.compared(rows), [(place, place + 1) for place in range(399)])
        self.assertEqual(self.compared(rows[::-1]), [(place, place + 1) for place in range(399)])
        self.assertEqual(self.compared([self.meeting(AT + 7 * step, 7) for step in range(400)]), [])
        self.assertEqual(len(clashes([self.meeting(AT, 1)] * 400)), 400 * 399 // 2)

    def test_drawn(self):
        chance = random.Random(29)
        for again in range(200):
            self.compared([self.meeting(AT + chance.randint(0, 300), chance.choice((1, 5, 60, 200)))
                           for step in range(chance.randint(0, 25))])

    def test_of_an_agenda(self):
        other = (((0, 0),), (9198, 500, 60, ("days", 1), ("times", 5)), "hall", ())
        found = agenda([("a", TELLING), ("b", other)], AT - 1000, AT + 10000)
        self.assertEqual([(found[place][2], found[other][2]) for place, other in clashes(found)], [("a", "b"), ("a", "b")])


class PlainAndTheSame(unittest.TestCase):

    def test_what_is_told_is_of_the_plain_kinds(self):
        telling = with_changes((9205, ("is", 9198, 500, 60, "hall")))
        for clock in (CLOCK, ((0, 0), (AT, 600))):
            some = [("a", (clock,) + telling[1:])]
            found = agenda(own(some), own(AT), own(AT + 5000))
            self.assertTrue(plain_kinds(found))
            self.assertEqual(found, agenda(some, AT, AT + 5000))
            self.assertEqual(clashes(own(found)), clashes(found))
            self.assertTrue(plain_kinds(clashes(own(found))))

    def test_told_lists_are_the_askers_own(self):
        some = [("a", TELLING), ("b", TELLING)]
        first = agenda(some, AT, AT + 100)
        pairs = clashes(first)
        self.assertEqual((first, some), (agenda(some, AT, AT + 100), [("a", TELLING), ("b", TELLING)]))
        agenda(some, AT, AT + 100).clear()
        clashes(first).clear()
        self.assertEqual((agenda(some, AT, AT + 100), clashes(first)), (first, pairs))
        self.assertEqual((len(first), pairs), (2, [(0, 1)]))


if __name__ == "__main__":
    unittest.main()
