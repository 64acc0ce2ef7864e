"""Point [14], and the interface's part of guestcopies/carrying.py."""

import random
import unittest

from guestcopies.carrying import carried
from guestcopies.tellings import is_telling
from plaindays import plain_days
from plaintellings import plain_carried
from things import OwnText, OwnTuple, OwnWhole, plain_kinds

CLOCK = ((0, 60),)
OTHER_CLOCK = ((0, 0), (5000, 60))
OFF = ("off",)
# A Monday; the week goes to 9204.
MONDAY = 9198
MARCH, APRIL, MAY, JUNE = 9190, 9221, 9251, 9282


def rule_of(first, how, end=None, minute=540, length=60):
    return (first, minute, length, how, end)


def weeks(*weekdays, n=1, first=MONDAY, end=None):
    return rule_of(first, ("weeks", n, weekdays), end)


def months(*day, n=1, first=MARCH, end=None):
    return rule_of(first, ("months", n) + day, end)


def telling_of(rule, *days, change=OFF, place="room"):
    return (CLOCK, rule, place, tuple((day, change) for day in days))


class Carried(unittest.TestCase):

    def compared(self, telling, rule, place="room", clock=CLOCK):
        self.assertTrue(is_telling(telling), telling)
        found = carried(telling, clock, rule, place)
        self.assertEqual(found, plain_carried(telling, clock, rule, place), (telling, rule))
        self.assertTrue(is_telling(found[0]), found)
        return found

    def days_and_lost(self, telling, rule):
        """Which days lived on which, and which were lost why."""
        found = self.compared(telling, rule)
        return (found[1], found[2])


class Staying(Carried):

    def test_without_changes(self):
        self.assertEqual(self.compared(telling_of(weeks(0)), months(5)), ((CLOCK, months(5), "room", ()), (), ()))

    def test_clock_rule_and_place_are_the_new_ones(self):
        rule = weeks(0, 3)
        found = self.compared(telling_of(weeks(0), MONDAY), rule, "hall", OTHER_CLOCK)
        self.assertEqual(found, ((OTHER_CLOCK, rule, "hall", ((MONDAY, OFF),)), ((MONDAY, MONDAY),), ()))

    def test_days_that_both_rules_have_whatever_kinds_they_are(self):
        for rule in (weeks(0), rule_of(MONDAY, ("days", 7)), rule_of(MONDAY, ("days", 1)), months(9), months(2, 0),
                     rule_of(MONDAY, ("once",)), months(16, n=2, first=MONDAY - 7)):
            telling = telling_of(weeks(0), MONDAY)
            lived = ((MONDAY, MONDAY),) if rule[3] != ("months", 2, 16) else ()
            self.assertEqual(self.days_and_lost(telling, rule)[0], lived)

    def test_a_change_stays_as_it_is_whatever_the_rule_is_now(self):
        change = ("is", 9300, 5, 6, "far")
        rule = rule_of(MONDAY, ("weeks", 1, (0,)), None, 600, 30)
        found = self.compared(telling_of(weeks(0), MONDAY, change=change), rule, "hall")
        self.assertEqual(found[0][3], ((MONDAY, change),))

    def test_a_change_that_is_bare_now_is_left_out_but_lived(self):
        change = ("is", MONDAY, 600, 30, "hall")
        rule = rule_of(MONDAY, ("weeks", 1, (0,)), None, 600, 30)
        found = self.compared(telling_of(weeks(0), MONDAY, change=change), rule, "hall")
        self.assertEqual(found, ((CLOCK, rule, "hall", ()), ((MONDAY, MONDAY),), ()))

    def test_a_change_that_isnt_bare_only_by_the_place(self):
        change = ("is", MONDAY, 540, 60, "hall")
        found = self.compared(telling_of(weeks(0), MONDAY, change=change), weeks(0), "hall")
        self.assertEqual(found[0][3], ())
        found = self.compared(telling_of(weeks(0), MONDAY, change=change), weeks(0), "attic")
        self.assertEqual(found[0][3], ((MONDAY, change),))


class CarriedByWeeks(Carried):

    def test_to_another_weekday(self):
        telling = telling_of(weeks(0), MONDAY, MONDAY + 7, change=("is", 9300, 5, 6, "far"))
        found = self.compared(telling, weeks(2))
        self.assertEqual(found[1], ((MONDAY, MONDAY + 2), (MONDAY + 7, MONDAY + 9)))
        self.assertEqual(found[0][3], ((MONDAY + 2, ("is", 9300, 5, 6, "far")), (MONDAY + 9, ("is", 9300, 5, 6, "far"))))

    def test_to_the_day_with_as_many_ahead(self):
        telling = telling_of(weeks(0, 2, 4), MONDAY, MONDAY + 2, MONDAY + 4)
        self.assertEqual(self.days_and_lost(telling, weeks(1, 3, 5)),
                         (((MONDAY, MONDAY + 1), (MONDAY + 2, MONDAY + 3), (MONDAY + 4, MONDAY + 5)), ()))

    def test_fewer_days_in_the_week(self):
        telling = telling_of(weeks(0, 2, 4), MONDAY, MONDAY + 2, MONDAY + 4)
        self.assertEqual(self.days_and_lost(telling, weeks(1, 3)),
                         (((MONDAY, MONDAY + 1), (MONDAY + 2, MONDAY + 3)), ((MONDAY + 4, "between"),)))

    def test_taken_by_one_that_stayed(self):
        # The Wednesday has one day ahead of it, and so has the Friday now, whose own change stayed.
        telling = telling_of(weeks(0, 2, 4), MONDAY + 2, MONDAY + 4)
        self.assertEqual(self.days_and_lost(telling, weeks(0, 4)),
                         (((MONDAY + 4, MONDAY + 4),), ((MONDAY + 2, "taken"),)))

    def test_taken_by_one_that_stayed_and_is_bare_now(self):
        bare = ("is", MONDAY + 4, 600, 30, "hall")
        telling = (CLOCK, weeks(0, 2, 4), "room", ((MONDAY + 2, OFF), (MONDAY + 4, bare)))
        rule = rule_of(MONDAY, ("weeks", 1, (0, 4)), None, 600, 30)
        found = self.compared(telling, rule, "hall")
        self.assertEqual(found, ((CLOCK, rule, "hall", ()), ((MONDAY + 4, MONDAY + 4),), ((MONDAY + 2, "taken"),)))

    def test_a_later_one_that_stays_goes_ahead_of_an_earlier_one_that_is_carried(self):
        telling = telling_of(weeks(0, 1), MONDAY, MONDAY + 1)
        self.assertEqual(self.days_and_lost(telling, weeks(1, 2)), (((MONDAY + 1, MONDAY + 1),), ((MONDAY, "taken"),)))

    def test_a_carried_one_that_is_bare_now(self):
        change = ("is", MONDAY + 2, 540, 60, "room")
        found = self.compared(telling_of(weeks(0), MONDAY, change=change), weeks(2))
        self.assertEqual(found, ((CLOCK, weeks(2), "room", ()), ((MONDAY, MONDAY + 2),), ()))

    def test_every_other_week(self):
        telling = telling_of(weeks(0), MONDAY, MONDAY + 7, MONDAY + 14)
        self.assertEqual(self.days_and_lost(telling, weeks(1, n=2)),
                         (((MONDAY, MONDAY + 1), (MONDAY + 14, MONDAY + 15)), ((MONDAY + 7, "between"),)))
        telling = telling_of(weeks(0, n=2), MONDAY, MONDAY + 14)
        self.assertEqual(self.days_and_lost(telling, weeks(1)),
                         (((MONDAY, MONDAY + 1), (MONDAY + 14, MONDAY + 15)), ()))

    def test_the_week_goes_from_monday_to_sunday(self):
        telling = telling_of(weeks(6), MONDAY + 6)
        self.assertEqual(self.days_and_lost(telling, weeks(0)), (((MONDAY + 6, MONDAY),), ()))

    def test_the_days_of_a_week_by_the_whole_rule(self):
        # With its first on Wednesday, that is the first day of its week, and so it is carried to the new one's first.
        old = weeks(0, 2, 4, first=MONDAY + 2)
        self.assertEqual(self.days_and_lost(telling_of(old, MONDAY + 2), weeks(1, 3, 5)),
                         (((MONDAY + 2, MONDAY + 1),), ()))
        new = weeks(1, 3, 5, first=MONDAY + 3)
        self.assertEqual(self.days_and_lost(telling_of(weeks(0, 2, 4), MONDAY, MONDAY + 2, MONDAY + 4), new),
                         (((MONDAY, MONDAY + 3), (MONDAY + 2, MONDAY + 5)), ((MONDAY + 4, "between"),)))

    def test_ends(self):
        telling = telling_of(weeks(0, 2), MONDAY, MONDAY + 2, MONDAY + 7, MONDAY + 9, MONDAY + 14)
        for end in (("times", 3), ("until", MONDAY + 8), ("until", MONDAY + 9)):
            self.assertEqual(self.days_and_lost(telling, weeks(1, 3, end=end)),
                             (((MONDAY, MONDAY + 1), (MONDAY + 2, MONDAY + 3), (MONDAY + 7, MONDAY + 8)),
                              ((MONDAY + 9, "behind"), (MONDAY + 14, "behind"))))
        old = weeks(0, 2, end=("times", 3))
        self.assertEqual(self.days_and_lost(telling_of(old, MONDAY + 7), weeks(1, 3)), (((MONDAY + 7, MONDAY + 8),), ()))

    def test_another_first(self):
        telling = telling_of(weeks(0), MONDAY, MONDAY + 7, MONDAY + 14)
        self.assertEqual(self.days_and_lost(telling, weeks(1, first=MONDAY + 7)),
                         (((MONDAY + 7, MONDAY + 8), (MONDAY + 14, MONDAY + 15)), ((MONDAY, "ahead"),)))


class CarriedByMonths(Carried):

    def test_dates_and_weekdays_each_way(self):
        self.assertEqual(self.days_and_lost(telling_of(months(5), MARCH + 4, APRIL + 4), months(20)),
                         (((MARCH + 4, MARCH + 19), (APRIL + 4, APRIL + 19)), ()))
        self.assertEqual(self.days_and_lost(telling_of(months(5), MARCH + 4, APRIL + 4), months(1, 0)),
                         (((MARCH + 4, MARCH + 1), (APRIL + 4, APRIL + 5)), ()))
        self.assertEqual(self.days_and_lost(telling_of(months(1, 0), MARCH + 1, APRIL + 5), months(30)),
                         (((MARCH + 1, MARCH + 29), (APRIL + 5, APRIL + 29)), ()))
        self.assertEqual(self.days_and_lost(telling_of(months(1, 0), MARCH + 1, APRIL + 5), months(-1, 4)),
                         (((MARCH + 1, MARCH + 26), (APRIL + 5, APRIL + 23)), ()))

    def test_a_month_that_lacks_the_day(self):
        self.assertEqual(self.days_and_lost(telling_of(months(5), MARCH + 4, APRIL + 4, MAY + 4), months(31)),
                         (((MARCH + 4, MARCH + 30), (MAY + 4, MAY + 30)), ((APRIL + 4, "between"),)))

    def test_every_other_month(self):
        self.assertEqual(self.days_and_lost(telling_of(months(5), MARCH + 4, APRIL + 4, MAY + 4), months(6, n=2)),
                         (((MARCH + 4, MARCH + 5), (MAY + 4, MAY + 5)), ((APRIL + 4, "between"),)))

    def test_firsts_and_ends(self):
        telling = telling_of(months(20), MARCH + 19, APRIL + 19, MAY + 19)
        for end in (("times", 1), ("until", APRIL + 20), ("until", MAY + 4)):
            self.assertEqual(self.days_and_lost(telling, months(6, first=MARCH + 6, end=end)),
                             (((APRIL + 19, APRIL + 5),), ((MARCH + 19, "ahead"), (MAY + 19, "behind"))))


class Lost(Carried):

    def test_no_day_in_the_new_rule(self):
        for rule in (weeks(0, first=MONDAY + 2, end=("until", MONDAY + 3)), months(31, n=12, first=9162)):
            self.assertEqual(plain_days(rule), [])
            for telling in (telling_of(weeks(4), MONDAY + 4), telling_of(months(5), MARCH + 4, APRIL + 4)):
                lived, lost = self.days_and_lost(telling, rule)
                self.assertEqual(lived, ())
                self.assertEqual({why for day, why in lost}, {"ahead"})

    def test_ahead_between_and_behind(self):
        rule = rule_of(MONDAY + 1, ("days", 3), ("times", 3))
        telling = telling_of(rule_of(MONDAY, ("days", 1)), *range(MONDAY, MONDAY + 10))
        lived, lost = self.days_and_lost(telling, rule)
        self.assertEqual(lived, tuple((day, day) for day in (MONDAY + 1, MONDAY + 4, MONDAY + 7)))
        self.assertEqual(lost, ((MONDAY, "ahead"), (MONDAY + 2, "between"), (MONDAY + 3, "between"),
                                (MONDAY + 5, "between"), (MONDAY + 6, "between"), (MONDAY + 8, "behind"),
                                (MONDAY + 9, "behind")))

    def test_rules_of_unlike_kinds_carry_nothing(self):
        telling = telling_of(weeks(0), MONDAY, MONDAY + 7, MONDAY + 14)
        for rule, why in ((months(10), "between"), (months(2, 1), "between"), (rule_of(MONDAY + 1, ("days", 9)), "between"),
                          (rule_of(MONDAY + 1, ("once",)), "behind")):
            self.assertEqual(self.days_and_lost(telling, rule)[0], ())
            self.assertIn((MONDAY + 14, why), self.days_and_lost(telling, rule)[1])
            self.assertEqual(self.days_and_lost(telling, rule)[1][0], (MONDAY, "ahead"))

    def test_days_and_once_carry_nothing_among_themselves(self):
        self.assertEqual(self.days_and_lost(telling_of(rule_of(MONDAY, ("days", 7)), MONDAY),
                                            rule_of(MONDAY + 1, ("days", 7))), ((), ((MONDAY, "ahead"),)))
        self.assertEqual(self.days_and_lost(telling_of(rule_of(MONDAY, ("once",)), MONDAY),
                                            rule_of(MONDAY - 1, ("once",))), ((), ((MONDAY, "behind"),)))

    def test_a_week_without_a_day_at_the_ends(self):
        telling = telling_of(weeks(0, 4), MONDAY, MONDAY + 4)
        self.assertEqual(self.days_and_lost(telling, weeks(2, first=MONDAY + 7)),
                         ((), ((MONDAY, "ahead"), (MONDAY + 4, "ahead"))))
        self.assertEqual(self.days_and_lost(telling, weeks(2, first=MONDAY - 14, end=("times", 2))),
                         ((), ((MONDAY, "behind"), (MONDAY + 4, "behind"))))


class Drawn(Carried):

    def drawn_how(self, chance):
        n = chance.choice((1, 1, 2, 3))
        weekdays = tuple(sorted(chance.sample(range(7), chance.randint(1, 5))))
        return chance.choice((
            ("once",), ("days", n), ("weeks", n, weekdays), ("weeks", n, weekdays), ("weeks", n, weekdays),
            ("months", n, chance.randint(1, 31)), ("months", n, chance.choice((1, 2, 5, -1)), chance.randint(0, 6))))

    def drawn_rule(self, chance, first):
        end = chance.choice((None, ("times", chance.randint(1, 40)), ("until", first + chance.randint(0, 300))))
        return rule_of(first, self.drawn_how(chance), end, chance.choice((540, 600)), chance.choice((30, 60)))

    def short(self, rule):
        """The rule with an end, so that all of its days are soon gone through."""
        return rule if rule[4] is not None else rule[:4] + (("until", rule[0] + 600),)

    def test_drawn_tellings_and_rules(self):
        chance = random.Random(14)
        whys, many_lived = set(), 0
        for again in range(700):
            first = 99000 + chance.randint(-60, 60)
            old = self.short(self.drawn_rule(chance, first))
            new = self.short(self.drawn_rule(chance, first + chance.choice((0, 0, -20, 3, 40))))
            if chance.random() < 0.6:
                # Many pairs shall be of one kind.
                new = new[:3] + (self.drawn_how(chance) if old[3][0] == "once" else
                                 (old[3][0], chance.choice((1, 2))) + old[3][2:], new[4])
            days = [day for day in plain_days(old) if day < first + 120]
            changes = []
            for day in sorted(chance.sample(days, min(len(days), chance.randint(0, 20)))):
                on = chance.choice((day, day + 1, chance.choice(plain_days(new) or [day])))
                change = chance.choice((OFF, ("is", on, new[1], new[2], "hall")))
                changes.append((day, change))
            found = self.compared((CLOCK, old, "room", tuple(changes)), new, "hall", OTHER_CLOCK)
            whys |= {why for day, why in found[2]}
            many_lived += len([pair for pair in found[1] if pair[0] != pair[1]])
        self.assertEqual(whys, {"taken", "ahead", "behind", "between"})
        self.assertGreater(many_lived, 100)


class Many(Carried):

    def test_a_hundred_changes(self):
        old = weeks(0, 1, 2, 3, 4, first=99008)
        days = plain_days(old)[:100]
        lived, lost = self.days_and_lost(telling_of(old, *days), weeks(2, 3, 4, 5, 6, first=99008))
        self.assertEqual(len(lived) + len(lost), 100)
        self.assertEqual([day for day, new in lived], sorted(day for day, new in lived))
        # Monday and Tuesday would go to Wednesday and Thursday, whose own changes stayed.
        self.assertEqual({why for day, why in lost}, {"taken"})
        self.assertEqual(len(lived), 60)
        lived, lost = self.days_and_lost(telling_of(months(1), *plain_days(months(1))[:100]), months(2))
        self.assertEqual((len(lived), lost), (100, ()))

    def test_a_hundred_changes_by_rules_that_count(self):
        old = months(31, first=9131, end=("times", 100))
        new = months(5, 2, first=9131, end=("times", 90))
        telling = telling_of(old, *plain_days(old))
        for again in range(5):
            self.compared(telling, new)


class PlainAndTheSame(Carried):

    def test_what_is_told_is_of_the_plain_kinds(self):
        def own(thing):
            if isinstance(thing, tuple):
                return OwnTuple(own(part) for part in thing)
            return None if thing is None else OwnText(thing) if isinstance(thing, str) else OwnWhole(thing)
        telling = telling_of(weeks(0, 2, 4), MONDAY, MONDAY + 2, MONDAY + 4, change=("is", 9300, 5, 6, "far"))
        rule = weeks(2, 3)
        found = carried(own(telling), own(CLOCK), own(rule), own("hall"))
        self.assertEqual(found, carried(telling, CLOCK, rule, "hall"))
        self.assertTrue(plain_kinds(found))
        self.assertEqual([len(part) for part in found], [4, 1, 2])

    def test_what_was_handed_in_stays_as_it_was(self):
        telling = telling_of(weeks(0, 2, 4), MONDAY, MONDAY + 2, MONDAY + 4)
        first = carried(telling, OTHER_CLOCK, weeks(2, 3), "hall")
        self.assertEqual(telling, telling_of(weeks(0, 2, 4), MONDAY, MONDAY + 2, MONDAY + 4))
        carried(first[0], CLOCK, months(5), "room")
        self.assertEqual(carried(telling, OTHER_CLOCK, weeks(2, 3), "hall"), first)


if __name__ == "__main__":
    unittest.main()
