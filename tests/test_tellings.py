"""Points [11] to [13], and the interface's part of guestcopies/tellings.py."""

import random
import unittest

from guestcopies.errors import GuestError, NoDay, TooMany
from guestcopies.ruledays import is_day
from guestcopies.tellings import is_telling, meetings, moments, told, with_change
from plaindays import plain_days
from plaintellings import slow_moment
from things import HUGE, OwnText, OwnTuple, OwnWhole, anything, nested, plain_kinds

CLOCK = ((0, 60),)
# By Mondays and Thursdays; 9198 is a Monday.
RULE = (9198, 540, 60, ("weeks", 1, (0, 3)), None)
DAILY = (9198, 540, 60, ("days", 1), None)
OFF = ("off",)
MOVED = ("is", 9200, 600, 45, "hall")
BARE = ("is", 9198, 540, 60, "room")
TELLING = (CLOCK, RULE, "room", ((9198, OFF), (9201, MOVED)))
WORDS = ("a", "z", "room", "abcdefgh", "off", "is")
NO_WORDS = ("", "abcdefghi", "Room", "rooM", "a b", " a", "a ", "a\n", "a1", "1", "-", "a_b", "\u00e4", "\u0430", "\u00df",
            None, True, 5, ("a",), ["a"], (), [])


def telling_of(changes, rule=RULE, place="room", clock=CLOCK):
    return (clock, rule, place, tuple(changes))


def many_changes(many):
    """So many changes of the daily rule."""
    return tuple((9198 + step, OFF) for step in range(many))


class IsTelling(unittest.TestCase):

    def right(self, thing):
        self.assertIs(is_telling(thing), True, thing)

    def wrong(self, thing):
        self.assertIs(is_telling(thing), False, thing)

    def test_without_changes_and_with_some(self):
        for place in WORDS:
            self.right(telling_of((), place=place))
            self.right(telling_of(((9198, ("is", 9198, 541, 60, place)),), place="room"))
        for changes in (((9198, OFF),), ((9201, MOVED),), ((9198, OFF), (9201, MOVED)), ((9198, MOVED), (9205, MOVED))):
            self.right(telling_of(changes))

    def test_changes_at_their_bounds(self):
        for day in (2, 99990):
            for minute in (0, 1439):
                for length in (1, 1440):
                    self.right(telling_of(((9198, ("is", day, minute, length, "a")),)))

    def test_a_change_that_is_the_rules_but_for_one_thing(self):
        for change in (("is", 9199, 540, 60, "room"), ("is", 9198, 539, 60, "room"), ("is", 9198, 540, 61, "room"),
                       ("is", 9198, 540, 60, "roon"), ("is", 9201, 540, 60, "room")):
            self.right(telling_of(((9198, change),)))

    def test_a_hundred_changes_and_one_more(self):
        for many in (0, 1, 99, 100):
            self.right(telling_of(many_changes(many), DAILY))
        for many in (101, 102, 150):
            self.wrong(telling_of(many_changes(many), DAILY))

    def test_a_bare_change(self):
        self.wrong(telling_of(((9198, BARE),)))
        self.wrong(telling_of(((9198, OFF), (9201, ("is", 9201, 540, 60, "room")))))
        self.right(telling_of(((9198, BARE),), place="hall"))

    def test_days_that_do_not_rise(self):
        for days in ((9198, 9198), (9201, 9198), (9198, 9205, 9201), (9198, 9201, 9201), (9212, 9205, 9208)):
            self.wrong(telling_of((day, OFF) for day in days))

    def test_a_day_that_is_none_of_the_rules(self):
        for day in (9199, 9197, 9191, 2, 1, 0, -1, 99991, 99999, HUGE, -HUGE):
            self.wrong(telling_of(((day, OFF),)))
        self.wrong(telling_of(((9191, OFF), (9198, OFF))))
        ended = RULE[:4] + (("times", 3),)
        self.right(telling_of(((9205, OFF),), ended))
        self.wrong(telling_of(((9208, OFF),), ended))
        until = RULE[:4] + (("until", 9205),)
        self.right(telling_of(((9205, OFF),), until))
        self.wrong(telling_of(((9208, OFF),), until))
        self.wrong(telling_of(((9162, OFF),), (9162, 540, 60, ("months", 12, 31), None)))

    def test_days_of_rules_that_count(self):
        rule = (9131, 540, 60, ("months", 1, 31), ("times", 30))
        days = plain_days(rule)
        self.right(telling_of([(day, OFF) for day in days], rule))
        self.wrong(telling_of([(day, OFF) for day in days] + [(plain_days(rule[:4] + (None,))[30], OFF)], rule))

    def test_a_day_of_no_kind(self):
        for day in (None, True, "9198", (9198,), [9198], "", ()):
            self.wrong(telling_of(((day, OFF),)))
            self.wrong(telling_of(((9198, OFF), (day, OFF))))

    def test_changes_that_are_none(self):
        for change in (None, True, "off", "is", (), [], ["off"], ("on",), ("Off",), ("off", 1), ("off", None), (OFF,), (1,),
                       ("is",), list(MOVED), MOVED[:-1], MOVED + (1,), ("was",) + MOVED[1:], (None,) + MOVED[1:],
                       ("off",) + MOVED[1:], ("is", (9200, 600, 45), "hall"), ("is", 9200, 600, 45, "hall", "hall"),
                       (["off"],), nested(20, "off", tuple)):
            self.wrong(telling_of(((9198, change),)))

    def test_changes_with_a_thing_beyond_its_bounds(self):
        wrong = {1: (1, 0, -1, 99991, 99999), 2: (-1, 1440, 1441), 3: (0, -1, 1441, 1442), 4: NO_WORDS}
        for place, parts in wrong.items():
            for part in parts + (None, True, False, "5", (5,), [5], HUGE, -HUGE):
                self.wrong(telling_of(((9198, MOVED[:place] + (part,) + MOVED[place + 1:]),)))

    def test_a_place_that_is_no_word(self):
        for place in NO_WORDS:
            self.wrong(telling_of((), place=place))
            self.wrong(telling_of(((9198, OFF),), place=place))

    def test_clocks_and_rules_that_are_none(self):
        for clock in ((), None, [(0, 60)], ((1, 60),), ((0, 841),), ((0, 60), (0, 60)), ((0, 60),) * 41, RULE):
            self.wrong(telling_of((), clock=clock))
        for rule in ((), None, list(RULE), RULE[:4], RULE + (None,), (1,) + RULE[1:], RULE[:3] + (("twice",), None), CLOCK):
            self.wrong(telling_of((), rule=rule))

    def test_lists_in_the_place_of_tuples(self):
        self.wrong(list(TELLING))
        self.wrong((list(CLOCK), RULE, "room", ()))
        self.wrong((CLOCK, RULE, "room", []))
        self.wrong((CLOCK, RULE, "room", [(9198, OFF)]))
        self.wrong((CLOCK, RULE, "room", ([9198, OFF],)))
        self.wrong((CLOCK, RULE, "room", ((9198, ["off"]),)))

    def test_one_thing_more_and_one_fewer(self):
        self.wrong(TELLING + (None,))
        self.wrong(TELLING + ((),))
        self.wrong(TELLING[:3])
        self.wrong(TELLING[1:])
        self.wrong((TELLING,))
        for changes in (((9198,),), ((9198, OFF, OFF),), (9198, OFF), ((),), (9198,), OFF, None, "", {}):
            self.wrong((CLOCK, RULE, "room", changes))

    def test_anything(self):
        for thing, same in zip(anything(), anything()):
            self.wrong(thing)
            self.wrong((thing, RULE, "room", ()))
            self.wrong((CLOCK, thing, "room", ()))
            if thing != "a":
                self.wrong((CLOCK, RULE, thing, ()))
            if thing != ():
                self.wrong((CLOCK, RULE, "room", thing))
            self.wrong((CLOCK, RULE, "room", (thing,)))
            self.wrong((CLOCK, RULE, "room", ((9198, thing),)))
            self.wrong((CLOCK, RULE, "room", ((thing, OFF),)))
            self.assertEqual(thing, same)


class Told(unittest.TestCase):

    def test_of_days_with_and_without_changes(self):
        self.assertIsNone(told(TELLING, 9198))
        self.assertEqual(told(TELLING, 9201), (9200, 600, 45, "hall"))
        self.assertEqual(told(TELLING, 9205), (9205, 540, 60, "room"))

    def test_of_days_that_are_none_of_the_rules(self):
        # 9200 is the day to which another one is moved.
        for day in (9200, 9199, 9197, 9194, 0, 99999, -1, 100000):
            self.assertIsNone(told(TELLING, day))

    def test_moved_to_another_ones_day(self):
        telling = telling_of(((9198, ("is", 9201, 540, 60, "room")), (9205, ("is", 9208, 0, 1, "x"))))
        self.assertEqual([told(telling, day) for day in (9198, 9201, 9205, 9208)],
                         [(9201, 540, 60, "room"), (9201, 540, 60, "room"), (9208, 0, 1, "x"), (9208, 540, 60, "room")])

    def test_behind_the_end(self):
        telling = telling_of((), RULE[:4] + (("times", 2),))
        self.assertEqual([told(telling, day) for day in (9201, 9205)], [(9201, 540, 60, "room"), None])


class Meetings(unittest.TestCase):

    def test_by_rising_days_of_the_rule(self):
        self.assertEqual(meetings(TELLING, 9190, 9208), [
            (9201, (9200, 600, 45, "hall")), (9205, (9205, 540, 60, "room")), (9208, (9208, 540, 60, "room"))])

    def test_from_a_day_to_a_day_by_the_rules_days(self):
        telling = telling_of(((9198, ("is", 9300, 5, 6, "far")), (9205, ("is", 9100, 5, 6, "past"))))
        self.assertEqual(meetings(telling, 9198, 9198), [(9198, (9300, 5, 6, "far"))])
        self.assertEqual(meetings(telling, 9205, 9207), [(9205, (9100, 5, 6, "past"))])
        self.assertEqual(meetings(telling, 9100, 9100), [])
        self.assertNotIn(9198, [day for day, meeting in meetings(telling, 9299, 9301)])
        self.assertEqual(moments(telling, 9198, 9198), [(1440 * 9300 + 5 - 60, 6, "far", 9198)])
        self.assertEqual(moments(telling, 9100, 9197), [])

    def test_low_beyond_high(self):
        for low, high in ((9201, 9200), (9300, 9198), (99999, 0)):
            self.assertEqual(meetings(TELLING, low, high), [])
            self.assertEqual(moments(TELLING, low, high), [])

    def test_all_are_dropped(self):
        telling = telling_of(((9198, OFF), (9201, OFF)), RULE[:4] + (("times", 2),))
        self.assertEqual(meetings(telling, 0, 99999), [])
        self.assertEqual(moments(telling, 0, 99999), [])

    def test_days_beyond_the_numbered_ones_raise_no_error(self):
        self.assertEqual(meetings(TELLING, -100, 9201), meetings(TELLING, 0, 9201))
        self.assertEqual(len(meetings(TELLING, 99000, 120000)), len(meetings(TELLING, 99000, 99999)))

    def test_beside_the_rules_days_one_by_one(self):
        chance = random.Random(12)
        for again in range(40):
            rule = chance.choice((RULE, DAILY, (9131, 0, 7, ("months", 1, 31), ("times", 30)),
                                  (9190, 1439, 1440, ("months", 1, 5, 0), ("until", 12000))))
            days = plain_days(rule[:4] + (("until", 12000),) if rule[4] is None else rule)[:120]
            changes = []
            for day in sorted(chance.sample(days, 12)):
                change = chance.choice((OFF, ("is", chance.choice(days), chance.randint(0, 1439),
                                              chance.randint(1, 1440), chance.choice(WORDS))))
                changes.append((day, change))
            telling = telling_of(changes, rule)
            self.assertTrue(is_telling(telling))
            low = chance.choice(days) + chance.randint(-3, 3)
            high = min(low + chance.randint(0, 60), days[-1])
            expected = []
            for day in days:
                if low <= day <= high and dict(changes).get(day) != OFF:
                    change = dict(changes).get(day, ("is", day, rule[1], rule[2], "room"))
                    self.assertEqual(told(telling, day), change[1:])
                    expected.append((day, change[1:]))
            self.assertEqual(meetings(telling, low, high), expected)
            places = [(1440 * on + minute - 60, length, place, day) for day, (on, minute, length, place) in expected]
            self.assertEqual(moments(telling, low, high), sorted(places))


class Moments(unittest.TestCase):

    def test_by_the_tellings_clock(self):
        for offset in (-840, 0, 60, 840):
            telling = telling_of((), (9198, 540, 60, ("once",), None), clock=((0, offset),))
            self.assertEqual(moments(telling, 0, 99999), [(1440 * 9198 + 540 - offset, 60, "room", 9198)])

    def test_put_forward_and_back(self):
        # From 02:00 to 03:00 on day 9218, and from 03:00 back to 02:00 on day 9225.
        clock = ((0, 60), (1440 * 9218 + 60, 120), (1440 * 9225 + 60, 60))
        rule = (9211, 150, 60, ("weeks", 1, (6,)), ("times", 4))
        expected = [(1440 * day + minute, 60, "room", day) for day, minute in
                    ((9211, 90), (9218, 60), (9225, 30), (9232, 90))]
        self.assertEqual(moments(telling_of((), rule, clock=clock), 0, 99999), expected)
        for (moment, length, place, day) in expected:
            self.assertEqual(moment, slow_moment(clock, 1440 * day + 150))

    def test_clocks_of_many_turns(self):
        chance = random.Random(13)
        for again in range(6):
            clock = ((0, chance.randint(-840, 840)),) + tuple(
                (1440 * 9198 + 400 * step, chance.randint(-840, 840)) for step in range(20))
            telling = telling_of(((9200, ("is", 9198, 5, 6, "a")),), DAILY, clock=clock)
            found = moments(telling, 9196, 9206)
            expected = sorted((slow_moment(clock, 1440 * on + minute), length, place, day)
                              for day, (on, minute, length, place) in meetings(telling, 9196, 9206))
            self.assertEqual(found, expected)

    def test_sorted_by_moment_length_place_and_day(self):
        changes = ((9198, ("is", 9220, 600, 60, "b")), (9201, ("is", 9220, 600, 60, "a")),
                   (9205, ("is", 9220, 600, 59, "c")), (9208, ("is", 9220, 600, 60, "a")),
                   (9212, ("is", 9219, 1439, 1440, "z")))
        found = moments(telling_of(changes), 9198, 9212)
        at = 1440 * 9220 + 600 - 60
        self.assertEqual(found, [(1440 * 9219 + 1379, 1440, "z", 9212), (at, 59, "c", 9205), (at, 60, "a", 9201),
                                 (at, 60, "a", 9208), (at, 60, "b", 9198)])

    def test_a_put_back_clock_may_change_the_order(self):
        # Local time goes from 1440 * 9199 + 840 back to 1440 * 9199 - 840 at this moment.
        clock = ((0, 840), (1440 * 9199, -840))
        telling = telling_of((), (9198, 30, 60, ("days", 1), ("times", 4)), clock=clock)
        found = moments(telling, 0, 99999)
        self.assertEqual(found, sorted(found))
        self.assertEqual([moment for moment, length, place, day in found],
                         sorted(slow_moment(clock, 1440 * day + 30) for day in range(9198, 9202)))


class WithChange(unittest.TestCase):

    def test_put(self):
        plain = telling_of(())
        self.assertEqual(with_change(plain, 9201, OFF), telling_of(((9201, OFF),)))
        self.assertEqual(with_change(plain, 9201, MOVED), telling_of(((9201, MOVED),)))
        self.assertEqual(with_change(TELLING, 9205, OFF), telling_of(((9198, OFF), (9201, MOVED), (9205, OFF))))
        self.assertEqual(with_change(telling_of(((9201, OFF), (9208, OFF))), 9205, MOVED),
                         telling_of(((9201, OFF), (9205, MOVED), (9208, OFF))))
        self.assertEqual(with_change(telling_of(((9201, OFF),)), 9198, MOVED), telling_of(((9198, MOVED), (9201, OFF))))

    def test_put_again(self):
        self.assertEqual(with_change(TELLING, 9198, MOVED), telling_of(((9198, MOVED), (9201, MOVED))))
        self.assertEqual(with_change(TELLING, 9201, OFF), telling_of(((9198, OFF), (9201, OFF))))
        self.assertEqual(with_change(TELLING, 9201, MOVED), TELLING)

    def test_taken_back(self):
        self.assertEqual(with_change(TELLING, 9198, None), telling_of(((9201, MOVED),)))
        self.assertEqual(with_change(TELLING, 9198, BARE), telling_of(((9201, MOVED),)))
        self.assertEqual(with_change(TELLING, 9201, None), telling_of(((9198, OFF),)))
        self.assertEqual(with_change(TELLING, 9201, ("is", 9201, 540, 60, "room")), telling_of(((9198, OFF),)))

    def test_taken_back_where_there_is_none(self):
        self.assertEqual(with_change(TELLING, 9205, None), TELLING)
        self.assertEqual(with_change(TELLING, 9205, ("is", 9205, 540, 60, "room")), TELLING)

    def test_a_bare_change_of_another_day_is_none(self):
        self.assertEqual(with_change(telling_of(()), 9201, BARE), telling_of(((9201, BARE),)))

    def refused_with_no_day(self, telling, day, change):
        with self.assertRaises(NoDay) as caught:
            with_change(telling, day, change)
        self.assertIs(type(caught.exception), NoDay)
        self.assertIsInstance(caught.exception, GuestError)
        self.assertEqual(caught.exception.day, day)
        self.assertIs(type(caught.exception.day), int)

    def test_no_day(self):
        for day in (9199, 9200, 9197, 9191, 0, 1, 99999, -1, 100000, OwnWhole(9199)):
            for change in (None, OFF, MOVED, BARE, ("is", int(day), 540, 60, "room")):
                self.refused_with_no_day(TELLING, day, change)
        self.refused_with_no_day(telling_of((), RULE[:4] + (("times", 2),)), 9205, None)

    def test_a_hundred_changes_and_one_more(self):
        full = telling_of(many_changes(100), DAILY)
        for change in (OFF, MOVED):
            with self.assertRaises(TooMany) as caught:
                with_change(full, 9400, change)
            self.assertIs(type(caught.exception), TooMany)
            self.assertEqual(caught.exception.most, 100)
        self.assertEqual(with_change(full, 9400, None), full)
        self.assertEqual(with_change(full, 9400, ("is", 9400, 540, 60, "room")), full)
        self.assertEqual(with_change(full, 9200, MOVED)[3][2], (9200, MOVED))
        self.assertEqual(len(with_change(full, 9200, MOVED)[3]), 100)
        self.assertEqual(len(with_change(full, 9200, None)[3]), 99)
        nearly = telling_of(many_changes(99), DAILY)
        self.assertEqual(with_change(nearly, 9297, OFF), full)

    def test_no_day_where_both_are_due(self):
        full = telling_of(many_changes(100), DAILY)
        for day in (9197, 99991):
            self.refused_with_no_day(full, day, OFF)

    def test_many_changes_one_behind_the_other(self):
        chance = random.Random(11)
        telling, known = telling_of((), DAILY), {}
        for again in range(300):
            day = chance.randint(9198, 9240)
            change = chance.choice((None, OFF, MOVED, ("is", day, 540, 60, "room"), ("is", day, 541, 60, "room")))
            telling = with_change(telling, day, change)
            known.pop(day, None)
            if change is not None and change != ("is", day, 540, 60, "room"):
                known[day] = change
            self.assertEqual(telling, telling_of(sorted(known.items()), DAILY))
            self.assertTrue(is_telling(telling))


class PlainAndTheSame(unittest.TestCase):

    def own_telling(self):
        def own(thing):
            if isinstance(thing, tuple):
                return OwnTuple(own(part) for part in thing)
            return None if thing is None else OwnText(thing) if isinstance(thing, str) else OwnWhole(thing)
        return own(TELLING), own(MOVED)

    def test_what_is_told_is_of_the_plain_kinds(self):
        telling, change = self.own_telling()
        self.assertIs(is_telling(telling), True)
        plain = (told(telling, OwnWhole(9201)), told(telling, OwnWhole(9205)), meetings(telling, 9198, OwnWhole(9300)),
                 moments(telling, OwnWhole(9198), 9300), with_change(telling, OwnWhole(9205), change),
                 with_change(telling, OwnWhole(9205), None), with_change(telling, 9201, None))
        self.assertTrue(plain_kinds(list(plain)))
        self.assertEqual(plain[4], with_change(TELLING, 9205, MOVED))
        self.assertEqual(plain[2], meetings(TELLING, 9198, 9300))

    def test_a_told_list_that_is_changed(self):
        for ask in (meetings, moments):
            before = ask(TELLING, 9190, 9300)
            changed = ask(TELLING, 9190, 9300)
            changed[0] = None
            changed.clear()
            self.assertEqual(ask(TELLING, 9190, 9300), before)

    def test_what_was_handed_in_stays_as_it_was(self):
        telling = telling_of(((9198, OFF), (9201, MOVED)))
        with_change(telling, 9198, None)
        with_change(telling, 9205, OFF)
        meetings(telling, 0, 99999)
        with self.assertRaises(NoDay):
            with_change(telling, 9199, OFF)
        self.assertEqual(telling, TELLING)
        self.assertEqual(TELLING, (((0, 60),), (9198, 540, 60, ("weeks", 1, (0, 3)), None), "room",
                                   ((9198, ("off",)), (9201, ("is", 9200, 600, 45, "hall")))))

    def test_who_asks_again_is_told_the_same(self):
        for again in range(2):
            self.assertEqual(told(TELLING, 9201), (9200, 600, 45, "hall"))
            self.assertEqual(len(moments(TELLING, 9190, 9208)), 3)
            self.assertIs(is_day(RULE, 9201), True)
            self.assertEqual(with_change(TELLING, 9205, OFF)[3][2], (9205, OFF))


if __name__ == "__main__":
    unittest.main()
