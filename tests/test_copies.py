"""Points [18] to [20], and the interface's part of guestcopies/copies.py."""

import itertools
import random
import unittest

from guestcopies.copies import Copy
from guestcopies.errors import GuestError, NoLetter
from guestcopies.letters import is_letter
from plaincopies import plain_kept, plain_state, state
from things import HUGE, anything, own, plain_kinds

MOST = 999999999
CLOCK = ((0, 60),)
OFF = ("off",)
# By Mondays and Thursdays; 9198 is a Monday.
RULE = (9198, 540, 60, ("weeks", 1, (0, 3)), None)
OTHER_RULE = (9198, 600, 30, ("weeks", 1, (0, 1)), None)
TELLING = (CLOCK, RULE, "room", ((9198, OFF),))
OTHER_TELLING = (((0, 0), (5000, 120)), OTHER_RULE, "hall", ())
MOVED = ("is", 9200, 600, 45, "hall")
BARE = ("is", 9198, 540, 60, "room")
NOTHING = ([], 0, 0, None, False, [])


def call(version, telling=TELLING, meeting="standup"):
    return ("call", meeting, version, telling)


def day(version, on=9201, change=OFF, meeting="standup"):
    return ("day", meeting, version, on, change)


def end(version, meeting="standup"):
    return ("end", meeting, version)


def with_changes(*changes):
    return TELLING[:3] + (changes,)


def copy_of(*letters, meeting="standup"):
    copy = Copy(meeting)
    for letter in letters:
        copy.take(letter)
    return copy


class Asking(unittest.TestCase):

    def taken(self, *letters):
        """A copy that took these letters, looked at behind each of them."""
        copy = Copy("standup")
        self.assertEqual(state(copy), NOTHING)
        for many, letter in enumerate(letters):
            self.assertTrue(is_letter(letter), letter)
            other = plain_kept(letters[:many]) != plain_kept(letters[:many + 1])
            self.assertIs(copy.take(letter), other, letters[:many + 1])
            self.assertEqual(state(copy), plain_state(letters[:many + 1]))
        return copy


class Taking(Asking):

    def test_nothing_has_come(self):
        copy = Copy("standup")
        self.assertEqual(state(copy), NOTHING)
        self.assertIs(copy.over(), False)

    def test_a_call(self):
        copy = Copy("standup")
        self.assertIs(copy.take(call(1)), True)
        self.assertEqual(state(copy), ([call(1)], 1, 1, TELLING, False, []))
        self.assertIs(copy.take(call(1)), False)
        self.assertEqual(state(copy), ([call(1)], 1, 1, TELLING, False, []))

    def test_the_greatest_call_is_kept(self):
        for letters in itertools.permutations([call(1), call(2, OTHER_TELLING), call(7), call(7)]):
            copy = self.taken(*letters)
            self.assertEqual(state(copy), ([call(7)], 7, 7, TELLING, False, []))

    def test_days_put_in_the_order_of_their_versions(self):
        for letters in itertools.permutations([call(1), day(2), day(3, 9201, MOVED), day(4, 9198, None), day(5, 9201, None)]):
            copy = self.taken(*letters)
            self.assertEqual(state(copy)[1:], (5, 5, with_changes(), False, []))
            self.assertEqual([letter[2] for letter in copy.kept()], [1, 2, 3, 4, 5])
        self.assertEqual(copy_of(call(1), day(2), day(3, 9201, MOVED)).telling(), with_changes((9198, OFF), (9201, MOVED)))
        self.assertEqual(copy_of(call(1), day(2, 9201, MOVED), day(3)).telling(), with_changes((9198, OFF), (9201, OFF)))

    def test_letters_without_a_call(self):
        copy = self.taken(day(2), end(5), day(4))
        self.assertEqual(state(copy), ([day(2), day(4), end(5)], 0, 5, None, False, [(1, 1), (3, 3)]))
        self.assertEqual(state(self.taken(day(1), end(2))), ([day(1), end(2)], 0, 2, None, False, []))

    def test_a_call_behind_newer_and_elder_letters(self):
        copy = self.taken(day(2), day(4), day(5, 9201, MOVED), day(9), end(11), call(4, OTHER_TELLING))
        self.assertEqual(copy.kept(), [call(4, OTHER_TELLING), day(5, 9201, MOVED), day(9), end(11)])
        self.assertEqual(state(copy)[1:], (5, 11, OTHER_TELLING, False, [(6, 8), (10, 10)]))

    def test_a_call_and_a_day_of_one_version(self):
        for letters in ([day(2), call(2, OTHER_TELLING)], [call(2, OTHER_TELLING), day(2)]):
            self.assertEqual(state(self.taken(*letters)), ([call(2, OTHER_TELLING)], 2, 2, OTHER_TELLING, False, []))
        self.assertEqual(state(self.taken(end(2), call(2))), ([call(2)], 2, 2, TELLING, False, []))

    def test_elder_letters_change_nothing(self):
        copy = copy_of(call(5), day(6))
        for letter in (call(1), call(4, OTHER_TELLING), day(1), day(5, 9205), end(3), end(5), call(5), day(6)):
            self.assertIs(copy.take(letter), False)
            self.assertEqual(state(copy), ([call(5), day(6)], 6, 6, with_changes((9198, OFF), (9201, OFF)), False, []))

    def test_gaps_are_filled(self):
        copy = copy_of(call(1), day(3), day(4, 9205), day(8), day(9, 9208))
        self.assertEqual((copy.version(), copy.newest(), copy.lacking()), (1, 9, [(2, 2), (5, 7)]))
        self.assertEqual(copy.telling(), TELLING)
        self.assertIs(copy.take(day(6)), True)
        self.assertEqual((copy.version(), copy.lacking()), (1, [(2, 2), (5, 5), (7, 7)]))
        copy.take(day(2, 9198, None))
        self.assertEqual((copy.version(), copy.lacking()), (4, [(5, 5), (7, 7)]))
        self.assertEqual(copy.telling(), with_changes((9201, OFF), (9205, OFF)))
        copy.take(call(7))
        self.assertEqual((copy.version(), copy.lacking()), (9, []))

    def test_the_end(self):
        copy = copy_of(call(1), end(3))
        self.assertIs(copy.over(), False)
        self.assertEqual(copy.lacking(), [(2, 2)])
        copy.take(day(2))
        self.assertIs(copy.over(), True)
        self.assertEqual((copy.version(), copy.telling()), (3, with_changes((9198, OFF), (9201, OFF))))
        # A call of the version ahead of the end's leaves it over.
        self.assertIs(copy.take(call(2)), True)
        self.assertIs(copy.over(), True)
        copy = self.taken(call(1), end(2), day(3), end(6))
        self.assertEqual(state(copy)[1:], (3, 6, with_changes((9198, OFF), (9201, OFF)), True, [(4, 5)]))
        self.assertIs(self.taken(call(1), end(2), call(3)).over(), False)

    def test_versions_far_apart(self):
        letters = [day(MOST), day(500000000), call(400000000), day(MOST - 1), day(400000001), end(500000001)]
        copy = copy_of(*letters)
        self.assertEqual(copy.lacking(), [(400000002, 499999999), (500000002, MOST - 2)])
        self.assertEqual((copy.version(), copy.newest(), copy.over()), (400000001, MOST, False))
        self.assertEqual([letter[2] for letter in copy.kept()], [400000000, 400000001, 500000000, 500000001, MOST - 1, MOST])
        self.assertEqual(copy_of(day(MOST)).lacking(), [(1, MOST - 1)])
        self.assertEqual(copy_of(end(2), day(MOST)).lacking(), [(1, 1), (3, MOST - 1)])
        self.assertEqual(state(copy_of(call(MOST))), ([call(MOST)], MOST, MOST, TELLING, False, []))
        self.assertEqual(copy_of(call(1), call(MOST), end(5)).newest(), MOST)

    def test_many_letters_from_the_last_to_the_first(self):
        copy = Copy("standup")
        for version in range(3000, 1, -1):
            copy.take(day(version, 9198 + 7 * (version % 50), OFF if version % 2 else None))
        self.assertEqual((copy.version(), copy.newest(), copy.lacking()), (0, 3000, [(1, 1)]))
        copy.take(call(1))
        self.assertEqual((copy.version(), copy.newest(), copy.lacking(), len(copy.kept())), (3000, 3000, [], 3000))


class DaysThatArePassedOver(Asking):

    def test_a_day_that_is_none_of_the_rules(self):
        for on in (9199, 9197, 2, 99990):
            for change in (None, OFF, MOVED):
                copy = self.taken(call(1), day(2, on, change), day(3))
                self.assertEqual(state(copy)[1:4], (3, 3, with_changes((9198, OFF), (9201, OFF))))
                self.assertEqual(copy.kept(), [call(1), day(2, on, change), day(3)])

    def test_the_hundred_and_first_change(self):
        rule = (9198, 540, 60, ("days", 1), None)
        full = (CLOCK, rule, "room", tuple((9198 + step, OFF) for step in range(100)))
        self.assertEqual(self.taken(call(1, full), day(2, 9298)).telling(), full)
        copy = self.taken(call(1, full), day(2, 9298), day(3, 9199, None), day(4, 9298, MOVED), day(5, 9299))
        self.assertEqual(copy.telling(), full[:3] + (((9198, OFF),) + full[3][2:] + ((9298, MOVED),),))
        self.assertEqual(copy.version(), 5)
        self.assertEqual(dict(self.taken(call(1, full), day(2, 9199, MOVED)).telling()[3])[9199], MOVED)

    def test_a_bare_change_takes_back(self):
        self.assertEqual(self.taken(call(1), day(2, 9198, BARE)).telling(), with_changes())
        self.assertEqual(self.taken(call(1), day(2, 9201, None)).telling(), TELLING)

    def test_passed_over_by_one_call_and_put_by_another(self):
        self.assertEqual(self.taken(call(1), day(3, 9199)).telling(), TELLING)
        copy = self.taken(call(1), day(3, 9199), call(2, OTHER_TELLING))
        self.assertEqual(copy.telling(), OTHER_TELLING[:3] + (((9199, OFF),),))


class Drawn(Asking):

    def drawn_letters(self, chance):
        """The letters of a run of versions, perhaps beginning far up; also calls beside other letters."""
        letters = []
        version = chance.choice((1, 1, 40))
        for step in range(chance.randint(1, 12)):
            telling = chance.choice((TELLING, OTHER_TELLING, with_changes((9201, MOVED))))
            letter = chance.choice((call(version, telling), day(version, chance.randint(9197, 9202), chance.choice(
                (None, OFF, MOVED, BARE))), day(version), day(version, 9198, None)))
            letters.append(letter if step else call(version, telling))
            if letter[0] == "day" and chance.random() < 0.2:
                letters.append(call(version, telling))
            version += 1
        if chance.random() < 0.4:
            letters.append(end(version))
        return letters

    def test_drawn_letters_in_any_order_and_twice(self):
        chance = random.Random(18)
        seen_over = 0
        for again in range(500):
            letters = self.drawn_letters(chance)
            some = [chance.choice(letters) for step in range(chance.randint(0, 2 * len(letters)))]
            copy = self.taken(*some)
            seen_over += copy.over()
            for letter in chance.sample(letters, len(letters)):
                copy.take(letter)
            self.assertEqual(state(copy), plain_state(letters))
            # All has come: it is the newest.
            self.assertEqual(copy.version(), copy.newest())
        self.assertGreater(seen_over, 20)


class Refused(Asking):

    def refused(self, copy, thing):
        before = state(copy)
        with self.assertRaises(NoLetter) as caught:
            copy.take(thing)
        self.assertIs(type(caught.exception), NoLetter)
        self.assertIsInstance(caught.exception, GuestError)
        self.assertEqual(state(copy), before)

    def test_letters_of_other_meetings_and_other_kinds(self):
        for copy in (Copy("standup"), copy_of(call(1), day(2), day(4)), copy_of(end(3)), copy_of(call(1), end(2))):
            for letter in (call(3, TELLING, "other"), day(3, meeting="standups"), end(3, "s"),
                           ("denied", "standup", "ann", "phone", 3), ("wish", "standup", "ann"),
                           ("answer", "standup", "ann", "phone", 1, 1, 9201, "yes"),
                           ("answer", "standup", "ann", "phone", 1, 1, None, "yes"),
                           ("offer", "standup", "ann", "phone", 1, 1, 9201, (9202, 600, 45))):
                self.assertTrue(is_letter(letter))
                self.refused(copy, letter)

    def test_such_as_are_no_letters(self):
        for copy in (Copy("standup"), copy_of(call(1), day(2), day(4))):
            for thing in (call(0), call(MOST + 1), call(True), call("3"), call(None), call(3, None), call(3, TELLING[:3]),
                          call(3, with_changes((9198, BARE))), list(call(3)), call(3) + (None,), call(3)[:3],
                          day(0), day(HUGE), day(3, 1), day(3, 99991), day(3, None), day(3, 9201, "off"), day(3, 9201, ()),
                          day(3, 9201, ["off"]), day(3, 9201, MOVED[:4]), day(3)[:4], day(3) + (1,), end(0), end(-1), end(3.0),
                          end(True), ("end", "standup"), ("end", 3, "standup"), ("ends", "standup", 3), (None, "standup", 3),
                          (("end",), "standup", 3), (["end"], "standup", 3), call(3, meeting=None), end(3, ["standup"])):
                self.refused(copy, thing)

    def test_things_of_any_kind(self):
        for copy in (Copy("standup"), copy_of(call(1), day(2), day(4))):
            for thing, same in zip(anything(), anything()):
                self.refused(copy, thing)
                self.assertEqual(thing, same)


class Joined(Asking):

    def some_copies(self):
        lists = [[], [call(1)], [call(1), day(2), day(3, 9198, None)], [day(3, 9198, None)], [day(2), end(4)],
                 [call(3, with_changes((9201, OFF)))], [call(1), end(4)], [end(4), day(7)]]
        return [(letters, copy_of(*letters)) for letters in lists]

    def test_in_each_order_with_themselves_and_again(self):
        for ones, one in self.some_copies():
            for others, other in self.some_copies():
                both = one.joined(other)
                self.assertIs(type(both), Copy)
                self.assertEqual(state(both), plain_state(ones + others))
                for again in (other.joined(one), both.joined(one), both.joined(other), one.joined(both), both.joined(both)):
                    self.assertEqual(state(again), state(both))
                for lasts, last in self.some_copies():
                    self.assertEqual(state(both.joined(last)), state(last.joined(other).joined(one)))
                self.assertEqual((state(one), state(other)), (plain_state(ones), plain_state(others)))

    def test_with_itself(self):
        for letters, copy in self.some_copies():
            self.assertEqual(state(copy.joined(copy)), plain_state(letters))

    def test_letters_to_one_change_none_of_the_others(self):
        one, other = copy_of(call(1), day(2)), copy_of(day(4))
        both = one.joined(other)
        alone = one.joined(one)
        before = state(one), state(other), state(alone)
        both.take(day(3, 9205))
        both.take(end(5))
        both.take(call(2, OTHER_TELLING))
        self.assertEqual((state(one), state(other), state(alone)), before)
        behind = state(both)
        one.take(call(9, OTHER_TELLING))
        other.take(day(3))
        alone.take(end(3))
        self.assertEqual(state(both), behind)
        self.assertEqual(one.version(), 9)

    def test_another_meeting(self):
        one, other = copy_of(call(1)), copy_of(call(1, TELLING, "other"), meeting="other")
        for first, second in ((one, other), (other, one), (Copy("standup"), Copy("other")), (one, Copy("standups"))):
            before = state(first), state(second)
            with self.assertRaises(NoLetter):
                first.joined(second)
            self.assertEqual((state(first), state(second)), before)


class PlainAndTheSame(Asking):

    def test_what_is_told_is_of_the_plain_kinds(self):
        copy = Copy(own("standup"))
        for letter in (call(3), day(4), day(4), day(7, 9201, MOVED), end(5)):
            self.assertIn(copy.take(own(letter)), (True, False))
        self.assertTrue(plain_kinds(list(state(copy))))
        self.assertEqual(state(copy), plain_state([call(3), day(4), day(7, 9201, MOVED), end(5)]))
        self.assertTrue(plain_kinds(list(state(copy.joined(Copy(own("standup")))))))
        self.assertTrue(plain_kinds(list(state(Copy("standup")))))

    def test_told_lists_are_the_askers_own(self):
        copy = copy_of(call(1), day(3), end(6))
        before = state(copy)
        for again in range(2):
            for told in (copy.kept(), copy.lacking()):
                told.append(None)
                told[0] = 7
                told.reverse()
            copy.kept().clear()
            self.assertEqual(state(copy), before)
        both = copy.joined(copy)
        both.kept().clear()
        self.assertEqual((state(copy), state(both)), (before, before))

    def test_each_method_is_the_classes_own(self):
        for name in "take kept version newest telling over lacking joined".split():
            self.assertIn(name, vars(Copy))


if __name__ == "__main__":
    unittest.main()
