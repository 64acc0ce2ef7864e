"""Points [31] and [32], and the interface's part of guestcopies/free.py."""

import random
import unittest

from guestcopies.errors import GuestError, TooMany
from guestcopies.free import first_times, least_barred
from plainpersons import plain_names, plain_tried
from things import own, plain_kinds

CLOCK = ((0, 0),)
WHOLE = ((0, 1440),) * 7
OFFICE = ((540, 1020),) * 5 + (None, None)
MONDAY = 1440 * 9198
ANN = (CLOCK, OFFICE, ())
BOB = (((0, 60),), OFFICE, ((MONDAY + 600, 60),))
CID = (CLOCK, WHOLE, ((MONDAY + 560, 20),))
PEOPLE = [("bob", BOB), ("cid", CID), ("ann", ANN)]
NOBODY = [("none", (CLOCK, (None,) * 7, ()))]
ALWAYS = [("all", (CLOCK, WHOLE, ()))]


def plain_first_times(people, length, low, high, step, count):
    free, barred = [], []
    for moment in plain_tried(length, low, high, step):
        names = plain_names(people, moment, length)
        free += [] if names else [moment]
        barred += [(moment, names)] if names else []
    if len(free) >= count:
        free = free[:count]
        barred = [pair for pair in barred if pair[0] < free[-1]]
    return (free, barred)


def plain_least_barred(people, length, low, high, step):
    found = [(len(plain_names(people, moment, length)), moment) for moment in plain_tried(length, low, high, step)]
    return (min(found)[1], plain_names(people, min(found)[1], length)) if found else None


class Free(unittest.TestCase):

    def compared(self, people, length, low, high, step, count):
        found = first_times(people, length, low, high, step, count)
        self.assertEqual(found, plain_first_times(people, length, low, high, step, count))
        least = least_barred(people, length, low, high, step)
        self.assertEqual(least, plain_least_barred(people, length, low, high, step))
        return found, least

    def test_the_first_times(self):
        found, least = self.compared(PEOPLE, 30, MONDAY + 450, MONDAY + 800, 30, 2)
        self.assertEqual(found, ([MONDAY + 660, MONDAY + 690], [
            (MONDAY + 450, ["ann", "bob"]), (MONDAY + 480, ["ann"]), (MONDAY + 510, ["ann"]), (MONDAY + 540, ["cid"]),
            (MONDAY + 570, ["cid"]), (MONDAY + 600, ["bob"]), (MONDAY + 630, ["bob"])]))
        self.assertEqual(least, (MONDAY + 660, []))

    def test_none_is_tried(self):
        for length, low, high in ((60, MONDAY, MONDAY + 59), (1, MONDAY, MONDAY), (1440, MONDAY, MONDAY + 1439),
                                  (60, MONDAY + 100, MONDAY)):
            for people in (PEOPLE, ALWAYS, NOBODY):
                found, least = self.compared(people, length, low, high, 10, 3)
                self.assertEqual((found, least), (([], []), None))

    def test_one_is_tried(self):
        for step in (1, 60, 10080):
            self.assertEqual(self.compared(ALWAYS, 60, MONDAY, MONDAY + 60, step, 3), (([MONDAY], []), (MONDAY, [])))
            self.assertEqual(self.compared(NOBODY, 60, MONDAY, MONDAY + 60, step, 3),
                             (([], [(MONDAY, ["none"])]), (MONDAY, ["none"])))
        self.assertEqual(self.compared(ALWAYS, 60, MONDAY, MONDAY + 119, 60, 3)[0], ([MONDAY], []))
        self.assertEqual(self.compared(ALWAYS, 60, MONDAY, MONDAY + 120, 60, 3)[0], ([MONDAY, MONDAY + 60], []))

    def test_two_hundred_are_tried_and_no_more(self):
        for step in (1, 7, 60, 10080):
            high = MONDAY + 60 + 199 * step
            found, least = self.compared(NOBODY, 60, MONDAY, high, step, 20)
            self.assertEqual((len(found[1]), found[1][-1][0]), (200, MONDAY + 199 * step))
            self.assertEqual(least, (MONDAY, ["none"]))
            self.compared(NOBODY, 60, MONDAY, high + step - 1, step, 20)
            for wide in (high + step, high + 2 * step, 143998559):
                for people in (PEOPLE, NOBODY, ALWAYS):
                    self.refused(lambda: first_times(people, 60, MONDAY, wide, step, 1))
                    self.refused(lambda: least_barred(people, 60, MONDAY, wide, step))

    def refused(self, ask):
        with self.assertRaises(TooMany) as caught:
            ask()
        self.assertIs(type(caught.exception), TooMany)
        self.assertIsInstance(caught.exception, GuestError)
        self.assertEqual(caught.exception.most, 200)

    def test_refused_ahead_of_all_looking(self):
        # Who looked at these people would fail otherwise.
        self.refused(lambda: first_times([("x", None)], 1, MONDAY, MONDAY + 1000, 1, 1))
        self.refused(lambda: least_barred([("x", None)], 1, MONDAY, MONDAY + 1000, 1))
        self.refused(lambda: first_times(ALWAYS, 1, 1440, 143998559, 1, 1))

    def test_counts(self):
        for count in (1, 2, 5, 19, 20):
            found, least = self.compared(ALWAYS, 60, MONDAY, MONDAY + 60 + 60 * 30, 60, count)
            self.assertEqual(found, ([MONDAY + 60 * place for place in range(count)], []))
        # As many as there are, and one fewer.
        for many, count in ((3, 3), (3, 4), (3, 2), (20, 20), (19, 20), (21, 20)):
            high = MONDAY + 60 * many
            found, least = self.compared(ALWAYS, 60, MONDAY, high, 60, count)
            self.assertEqual(len(found[0]), min(many, count))

    def test_barred_ones_only_ahead_of_the_last_one_told(self):
        people = [("x", (CLOCK, WHOLE, ((MONDAY + 60, 60), (MONDAY + 180, 60), (MONDAY + 300, 60))))]
        free = [MONDAY, MONDAY + 120, MONDAY + 240]
        barred = [(MONDAY + 60, ["x"]), (MONDAY + 180, ["x"]), (MONDAY + 300, ["x"])]
        for count, many_free, many_barred in ((1, 1, 0), (2, 2, 1), (3, 3, 2), (4, 3, 3), (20, 3, 3)):
            found, least = self.compared(people, 60, MONDAY, MONDAY + 360, 60, count)
            self.assertEqual(found, (free[:many_free], barred[:many_barred]))

    def test_who_bars_sorted(self):
        people = [(name, NOBODY[0][1]) for name in ("zed", "b", "ab", "abc", "m", "a", "x", "y", "c", "d", "e")] + ALWAYS
        found, least = self.compared(people, 60, MONDAY, MONDAY + 120, 60, 1)
        self.assertEqual(found[1][1], (MONDAY + 60, sorted(name for name, person in people[:-1])))
        self.assertEqual(least, (MONDAY, sorted(name for name, person in people[:-1])))

    def test_the_first_of_several_least_barred(self):
        people = [("a", (CLOCK, WHOLE, ((MONDAY, 120),))), ("b", (CLOCK, WHOLE, ((MONDAY, 60),))), ("c", NOBODY[0][1]),
                  ("d", (CLOCK, WHOLE, ((MONDAY + 240, 60),)))]
        found, least = self.compared(people, 60, MONDAY, MONDAY + 300, 60, 1)
        self.assertEqual(least, (MONDAY + 120, ["c"]))
        found, least = self.compared(people[:2], 60, MONDAY, MONDAY + 60, 60, 1)
        self.assertEqual(least, (MONDAY, ["a", "b"]))

    def test_by_minutes_over_turns_of_a_clock(self):
        turn = MONDAY + 700
        for offset in (-60, 60, 840):
            people = PEOPLE + [("dan", (((0, 0), (turn, offset)), OFFICE, ()))]
            self.compared(people, 45, turn - 100, turn + 140, 2, 20)
            self.compared(people, 1440, turn - 3000, turn + 3000, 100, 5)

    def test_drawn(self):
        chance = random.Random(31)
        some = 0
        for again in range(150):
            people = []
            for name in chance.sample(("a", "b", "c", "dd", "e"), chance.randint(1, 5)):
                hours = tuple(chance.choice(((0, 1440), (300, 1200), (0, 1440), None)) for day in range(7))
                busy = tuple((MONDAY + chance.randint(0, 2000), chance.choice((10, 100))) for step in range(chance.randint(0, 4)))
                people.append((name, (((0, chance.choice((0, 60))), (MONDAY + 900, 0)), hours, busy)))
            low = MONDAY + chance.randint(-200, 500)
            found, least = self.compared(people, chance.choice((1, 30, 90)), low, low + chance.randint(0, 1500),
                                         chance.choice((15, 20, 60)), chance.choice((1, 2, 5, 20)))
            some += bool(found[0] and found[1])
        self.assertGreater(some, 20)

    def test_steps_beyond_their_bounds_raise_no_error(self):
        self.assertEqual(first_times(ALWAYS, 1, MONDAY, MONDAY + 3, 20000, 30), ([MONDAY], []))
        self.assertEqual(len(first_times(ALWAYS, 1441, MONDAY, MONDAY + 1443, 0, 30)[0]), 3)

    def test_what_is_told_is_of_the_plain_kinds(self):
        args = (PEOPLE, 30, MONDAY + 450, MONDAY + 700, 30, 2)
        found = first_times(*[own(arg) for arg in args])
        least = least_barred(*[own(arg) for arg in args[:5]])
        self.assertEqual((found, least), (first_times(*args), least_barred(*args[:5])))
        self.assertTrue(plain_kinds(found))
        self.assertTrue(plain_kinds(least))
        self.assertTrue(plain_kinds(least_barred(own(NOBODY), own(60), own(MONDAY), own(MONDAY + 99), own(60))))

    def test_told_lists_are_the_askers_own(self):
        args = (PEOPLE, 30, MONDAY + 450, MONDAY + 800, 30, 2)
        first = first_times(*args)
        changed = first_times(*args)
        changed[0].clear()
        changed[1][0][1].append("zoe")
        changed[1].reverse()
        self.assertEqual(first_times(*args), first)
        least = least_barred(NOBODY, 30, MONDAY, MONDAY + 100, 30)
        least[1].clear()
        self.assertEqual(least_barred(NOBODY, 30, MONDAY, MONDAY + 100, 30), (MONDAY, ["none"]))
        found = first_times(NOBODY, 30, MONDAY, MONDAY + 60, 30, 1)[1]
        found[0][1].clear()
        self.assertEqual(found[1][1], ["none"])

    def test_what_was_handed_in_changed_by_its_owner_and_handed_in_anew(self):
        people = list(PEOPLE)
        first = first_times(people, 30, MONDAY + 450, MONDAY + 800, 30, 2)
        self.assertEqual(people, PEOPLE)
        people.append(NOBODY[0])
        self.assertEqual(first_times(people, 30, MONDAY + 450, MONDAY + 800, 30, 2)[0], [])
        people.pop()
        self.assertEqual(first_times(people, 30, MONDAY + 450, MONDAY + 800, 30, 2), first)
        people.clear()
        self.assertEqual(len(first[0]), 2)


if __name__ == "__main__":
    unittest.main()
