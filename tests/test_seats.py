"""Points [25] to [27], and the interface's part of guestcopies/seats.py."""

import random
import unittest

from guestcopies.books import Book
from guestcopies.errors import NoDay, NoLetter, NotYet, Over
from guestcopies.letters import is_letter
from guestcopies.seats import Seat
from plaincopies import plain_state as plain_copy_state, state as copy_state
from plaintellings import plain_told
from things import HUGE, anything, own, plain_kinds

MOST = 999999999
CLOCK = ((0, 60),)
OFF = ("off",)
# By Mondays and Thursdays; 9198 is a Monday.
RULE = (9198, 540, 60, ("weeks", 1, (0, 3)), None)
TELLING = (CLOCK, RULE, "room", ((9201, OFF),))
OTHER_TELLING = (CLOCK, RULE, "hall", ())
MOVED = ("is", 9200, 600, 45, "hall")
SLOT = (9199, 700, 30)
NOTHING = (([], 0, 0, None, False, []), 0, [])
CALL = ("call", "standup", 1, TELLING)
DAY = ("day", "standup", 2, 9198, OFF)
END = ("end", "standup", 3)


def answer(number, holder="desk", guest="ann", meeting="standup", on=9198, version=1):
    return ("answer", meeting, guest, holder, number, version, on, "yes")


def offer(number, holder="desk", guest="ann", meeting="standup"):
    return ("offer", meeting, guest, holder, number, 1, 9198, SLOT)


def denied(number, holder="desk", guest="ann", meeting="standup"):
    return ("denied", meeting, guest, holder, number)


def state(seat):
    """What a seat tells."""
    return (copy_state(seat), seat.number(), seat.denied())


def plain_state(letters):
    """What a seat tells that has taken these letters."""
    callers = [letter for letter in letters if letter[0] in ("call", "day", "end")]
    others = [letter for letter in letters if letter not in callers]
    refused = sorted({(letter[4], letter[3]) for letter in others if letter[0] == "denied"})
    return (plain_copy_state(callers), max([letter[4] for letter in others], default=0), refused)


def seat_of(*letters, holder="phone"):
    seat = Seat("standup", "ann", holder)
    for letter in letters:
        seat.take(letter)
    return seat


class Asking(unittest.TestCase):

    def refused(self, seat, kind, deed, day=None):
        before = state(seat)
        with self.assertRaises(kind) as caught:
            deed()
        self.assertIs(type(caught.exception), kind)
        if day is not None:
            self.assertEqual(caught.exception.day, day)
            self.assertIs(type(caught.exception.day), int)
        self.assertEqual(state(seat), before)


class Taking(Asking):

    def taken(self, *letters):
        """A seat that took these letters, looked at behind each of them."""
        seat = Seat("standup", "ann", "phone")
        self.assertEqual(state(seat), NOTHING)
        for many, letter in enumerate(letters, 1):
            self.assertTrue(is_letter(letter), letter)
            before = state(seat)
            other = seat.take(letter)
            self.assertEqual(state(seat), plain_state(letters[:many]))
            self.assertIs(other, before != state(seat), letter)
        return seat

    def test_the_callers_letters(self):
        seat = self.taken(END, CALL, DAY, CALL, DAY, END)
        self.assertEqual((seat.version(), seat.newest(), seat.over(), seat.kept()), (3, 3, True, [CALL, DAY, END]))
        self.assertEqual(seat.telling(), TELLING[:3] + (((9198, OFF), (9201, OFF)),))
        seat = self.taken(("day", "standup", 9, 9198, OFF), CALL, ("call", "standup", 4, OTHER_TELLING), DAY)
        self.assertEqual((seat.version(), seat.newest(), seat.lacking(), seat.over()), (4, 9, [(5, 8)], False))
        self.assertEqual((seat.number(), seat.denied()), (0, []))

    def test_the_number(self):
        seat = self.taken(answer(3), answer(3), answer(2), offer(3), offer(5, "tab"), answer(5), answer(MOST), denied(9))
        self.assertEqual(seat.number(), MOST)
        self.assertIs(seat.take(answer(MOST, "phone")), False)

    def test_denied_ones(self):
        seat = self.taken(denied(4), denied(4), denied(4, "phone"), answer(4), denied(10), denied(2, "tab"), denied(10))
        self.assertEqual((seat.number(), seat.denied()), (10, [(2, "tab"), (4, "desk"), (4, "phone"), (10, "desk")]))

    def test_a_denied_one_that_is_no_greater_is_still_told(self):
        seat = self.taken(answer(9))
        self.assertIs(seat.take(denied(5)), True)
        self.assertIs(seat.take(denied(5)), False)
        self.assertEqual((seat.number(), seat.denied()), (9, [(5, "desk")]))

    def test_answers_of_all_days_and_of_any_version(self):
        seat = self.taken(answer(1, on=None), answer(2, on=2, version=MOST), offer(3, "phone"))
        self.assertEqual(seat.number(), 3)

    def test_drawn_letters_in_any_order_and_twice(self):
        chance = random.Random(25)
        for again in range(300):
            letters = [CALL, DAY, END, ("call", "standup", 2, OTHER_TELLING), ("day", "standup", 5, 9205, MOVED)]
            for step in range(8):
                write = chance.choice((answer, offer, denied))
                letters.append(write(chance.randint(1, 6), chance.choice(("desk", "phone", "tab"))))
            self.taken(*[chance.choice(letters) for step in range(chance.randint(0, 20))])


class Refused(Asking):

    def test_letters_of_others(self):
        for seat in (seat_of(), seat_of(CALL, denied(3), answer(4))):
            for letter in (("call", "other", 2, TELLING), ("day", "other", 2, 9198, OFF), ("end", "other", 2),
                           denied(5, guest="bob"), denied(5, meeting="other"), denied(5, "ann", "desk"),
                           answer(5, guest="bob"), answer(5, meeting="other"), offer(5, guest="bob"),
                           offer(5, meeting="other"), ("wish", "standup", "ann"), ("wish", "other", "ann"),
                           ("wish", "standup", "bob")):
                self.assertTrue(is_letter(letter))
                self.refused(seat, NoLetter, lambda: seat.take(letter))

    def test_such_as_are_no_letters(self):
        for seat in (seat_of(), seat_of(CALL, denied(3), answer(4))):
            for thing in (answer(0), answer(MOST + 1), answer(True), answer("5"), answer(5)[:7], list(answer(5)),
                          answer(5) + (1,), answer(5, None), answer(5, on=1), denied(0), denied(HUGE), denied(5)[:4],
                          denied(5, "Desk"), list(denied(5)), offer(5)[:7] + ((9199, 700),), offer(-1), END[:2], CALL[:3],
                          DAY[:4] + ("off",), (None,) + denied(5)[1:], ("deny",) + denied(5)[1:]):
                self.refused(seat, NoLetter, lambda: seat.take(thing))

    def test_things_of_any_kind(self):
        for seat in (seat_of(), seat_of(CALL, denied(3), answer(4))):
            for thing, same in zip(anything(), anything()):
                self.refused(seat, NoLetter, lambda: seat.take(thing))
                self.assertEqual(thing, same)


class Writing(Asking):

    def test_answers_and_offers(self):
        seat = seat_of(CALL)
        self.assertEqual(seat.answer(9198, "yes"), ("answer", "standup", "ann", "phone", 1, 1, 9198, "yes"))
        self.assertEqual(seat.number(), 1)
        self.assertEqual(seat.answer(None, "perhaps"), ("answer", "standup", "ann", "phone", 2, 1, None, "perhaps"))
        self.assertEqual(seat.offer(9205, SLOT), ("offer", "standup", "ann", "phone", 3, 1, 9205, SLOT))
        seat.take(DAY)
        self.assertEqual(seat.answer(9205, "no"), ("answer", "standup", "ann", "phone", 4, 2, 9205, "no"))
        self.assertEqual(state(seat), (plain_copy_state([CALL, DAY]), 4, []))

    def test_one_more_than_the_number(self):
        seat = seat_of(CALL, answer(7), denied(9), offer(8, "phone"))
        self.assertEqual(seat.answer(9198, "yes")[4], 10)
        seat.take(offer(20, "tab"))
        self.assertEqual(seat.offer(9198, SLOT)[4], 21)
        self.assertEqual(seat.number(), 21)

    def test_its_own_letters_come_to_it(self):
        seat = seat_of(CALL)
        letter = seat.answer(9198, "yes")
        self.assertTrue(is_letter(letter))
        self.assertIs(seat.take(letter), False)
        other = seat_of(CALL, holder="desk")
        self.assertIs(other.take(letter), True)
        self.assertEqual(other.answer(9198, "no"), ("answer", "standup", "ann", "desk", 2, 1, 9198, "no"))

    def test_days_of_which_something_is_told(self):
        seat = seat_of(CALL, ("day", "standup", 2, 9205, MOVED))
        for on in (2, 9191, 9197, 9198, 9199, 9200, 9201, 9205, 9208, 99988, 99990):
            if plain_told(seat.telling(), on) is None:
                self.refused(seat, NoDay, lambda: seat.answer(on, "yes"), on)
                self.refused(seat, NoDay, lambda: seat.offer(on, SLOT), on)
            else:
                self.assertEqual(seat.answer(on, "yes")[5:], (2, on, "yes"))
                self.assertEqual(seat.offer(on, SLOT)[5:], (2, on, SLOT))
        self.assertEqual(seat.number(), 8)

    def test_by_the_version_that_is_there_not_the_newest(self):
        seat = seat_of(CALL, ("day", "standup", 3, 9198, OFF), END[:2] + (4,))
        self.assertEqual(seat.answer(9198, "yes")[5], 1)
        self.assertEqual(seat.answer(None, "yes")[5], 1)

    def test_not_yet(self):
        for seat in (seat_of(), seat_of(DAY, END), seat_of(answer(3), denied(4))):
            for on in (9198, 9199, 9201, None):
                self.refused(seat, NotYet, lambda: seat.answer(on, "yes"))
            for on in (9198, 9199, 9201):
                self.refused(seat, NotYet, lambda: seat.offer(on, SLOT))

    def test_over_ahead_of_no_day(self):
        seat = seat_of(CALL, DAY, END)
        for on in (9198, 9199, 9201, 9205, None):
            self.refused(seat, Over, lambda: seat.answer(on, "yes"))
        for on in (9198, 9199, 9201, 9205):
            self.refused(seat, Over, lambda: seat.offer(on, SLOT))

    def test_wishes_at_any_time(self):
        for seat in (seat_of(), seat_of(DAY), seat_of(CALL, answer(3)), seat_of(CALL, DAY, END)):
            before = state(seat)
            for again in range(2):
                self.assertEqual(seat.wish(), ("wish", "standup", "ann"))
            self.assertEqual(state(seat), before)

    def test_an_answer_counts_as_long_as_the_book_tells_what_the_copy_told(self):
        book = Book("standup", TELLING, ["ann"])
        seat = seat_of(*[letter for guest, letter in book.calls()])
        late = book.change(9205, OFF)[0][1]
        book.take(seat.answer(None, "yes"))
        self.assertEqual([book.word("ann", on) for on in (9198, 9201, 9205, 9208)], ["yes", None, None, "yes"])
        back = book.change(9205, None)[0][1]
        self.assertEqual(book.word("ann", 9205), None)
        book.take(seat.answer(9205, "yes"))
        self.assertEqual(book.word("ann", 9205), None)
        seat.take(back)
        seat.take(late)
        book.take(seat.answer(9205, "no"))
        self.assertEqual(book.word("ann", 9205), "no")


class Joined(Asking):

    LISTS = ([], [CALL], [CALL, DAY, answer(3)], [END, denied(4)], [denied(4, "tab"), denied(7), offer(9, "phone")],
             [("call", "standup", 2, OTHER_TELLING), denied(4)])

    def test_in_each_order(self):
        for ones in self.LISTS:
            for others in self.LISTS:
                one, other = seat_of(*ones), seat_of(*others, holder="desk")
                both, turned = one.joined(other), other.joined(one)
                self.assertIs(type(both), Seat)
                self.assertEqual(state(both), plain_state(ones + others))
                self.assertEqual(state(turned), state(both))
                for again in (both.joined(one), other.joined(both), both.joined(both), both.joined(seat_of())):
                    self.assertEqual(state(again), state(both))
                self.assertEqual((state(one), state(other)), (plain_state(ones), plain_state(others)))

    def test_the_holder_is_the_first_ones(self):
        one, other = seat_of(CALL, answer(3)), seat_of(denied(8), holder="desk")
        self.assertEqual(one.joined(other).answer(9198, "yes")[3:5], ("phone", 9))
        self.assertEqual(other.joined(one).offer(9198, SLOT)[3:5], ("desk", 9))
        self.assertEqual((one.number(), other.number()), (3, 8))

    def test_letters_to_one_change_none_of_the_others(self):
        one, other = seat_of(CALL, denied(2)), seat_of(END, denied(3))
        both, alone = one.joined(other), one.joined(one)
        before = state(one), state(other), state(alone)
        for letter in (DAY, denied(9), answer(20)):
            both.take(letter)
        both.wish()
        self.assertEqual((state(one), state(other), state(alone)), before)
        behind = state(both)
        one.take(denied(30))
        one.answer(9198, "yes")
        other.take(denied(31))
        alone.take(("call", "standup", 9, OTHER_TELLING))
        self.assertEqual(state(both), behind)

    def test_of_another_meeting_or_guest(self):
        one = seat_of(CALL, denied(2))
        for other in (Seat("other", "ann", "phone"), Seat("standup", "bob", "phone"), Seat("other", "bob", "desk")):
            self.refused(one, NoLetter, lambda: one.joined(other))
            self.refused(other, NoLetter, lambda: other.joined(one))


class PlainAndTheSame(Asking):

    def test_what_is_told_is_of_the_plain_kinds(self):
        seat = Seat(own("standup"), own("ann"), own("phone"))
        for letter in (CALL, ("day", "standup", 4, 9198, None), DAY, answer(3), denied(5), offer(4, "tab")):
            self.assertIs(seat.take(own(letter)), letter != offer(4, "tab"))
        written = [seat.answer(own(9205), own("yes")), seat.offer(own(9205), own(SLOT)), seat.answer(None, own("no")),
                   seat.wish()]
        self.assertTrue(all(is_letter(letter) for letter in written))
        self.assertTrue(plain_kinds(written))
        self.assertTrue(plain_kinds(list(state(seat))))
        self.assertTrue(plain_kinds(list(state(seat.joined(seat)))))
        self.refused(seat, NoDay, lambda: seat.answer(own(9199), "yes"), 9199)

    def test_told_lists_are_the_askers_own(self):
        seat = seat_of(CALL, END, denied(4))
        before = state(seat)
        for told in (seat.kept, seat.lacking, seat.denied):
            self.assertTrue(told())
            told().append(1)
            told().clear()
            told()[0] = None
            self.assertEqual(state(seat), before)

    def test_each_method_is_the_classes_own(self):
        for name in """take version newest number telling over kept lacking denied answer offer wish joined""".split():
            self.assertIn(name, vars(Seat))


if __name__ == "__main__":
    unittest.main()
