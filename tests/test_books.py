"""Points [21] and [22], and the interface's part of guestcopies/books.py."""

import random
import unittest

from guestcopies.books import Book
from guestcopies.errors import NoDay, Over, TooMany, Twice
from guestcopies.letters import is_letter
from plainbooks import PlainBook, Refusal, plain_state, state
from things import HUGE, own, plain_kinds

CLOCK = ((0, 60),)
# From a moment on an hour less ahead: the same local time comes an hour later.
TURNED = ((0, 60), (1440 * 9203, 0))
OFF = ("off",)
# By Mondays and Thursdays; 9198 is a Monday.
RULE = (9198, 540, 60, ("weeks", 1, (0, 3)), None)
DAILY = (9198, 540, 60, ("days", 1), None)
TELLING = (CLOCK, RULE, "room", ((9201, OFF),))
MOVED = ("is", 9200, 600, 45, "hall")
DAYS = (0, 2, 9197, 9198, 9199, 9201, 9205, 9208, 99990, 99999)
GUESTS = ["cid", "ann", "bob"]
TWELVE = ["g" + letter for letter in "lkjihgfedcba"]


def call(version, telling=TELLING):
    return ("call", "standup", version, telling)


def day(version, on, change):
    return ("day", "standup", version, on, change)


def end(version):
    return ("end", "standup", version)


def with_changes(*changes, rule=RULE):
    return (CLOCK, rule, "room", changes)


def book_of(telling=TELLING, guests=GUESTS):
    return Book("standup", telling, list(guests))


def ended_book():
    book = book_of()
    book.change(9198, OFF)
    book.end()
    return book


class Doing(unittest.TestCase):

    def to_all(self, *letters, guests=GUESTS):
        for letter in letters:
            self.assertTrue(is_letter(letter), letter)
        return [(guest, letter) for guest in sorted(guests) for letter in letters]

    def refused(self, book, kind, field, worth, deed):
        """A deed is refused, and changes nothing."""
        before = state(book, DAYS)
        with self.assertRaises(kind) as caught:
            deed()
        self.assertIs(type(caught.exception), kind)
        if field:
            self.assertEqual(getattr(caught.exception, field), worth)
            self.assertIs(type(getattr(caught.exception, field)), type(worth))
        self.assertEqual(state(book, DAYS), before)


class Calls(Doing):

    def test_a_new_book(self):
        for guests in ([], ["ann"], GUESTS, TWELVE):
            book = book_of(guests=guests)
            self.assertEqual((book.version(), book.telling(), book.at(1)), (1, TELLING, TELLING))
            self.assertIs(book.over(), False)
            self.assertEqual((book.guests(), book.lost(), book.offers()), (sorted(guests), [], []))

    def test_calls_of_the_version_as_it_is(self):
        for guests in ([], ["ann"], GUESTS, TWELVE):
            book = book_of(guests=guests)
            for again in range(2):
                self.assertEqual(book.calls(), self.to_all(call(1), guests=guests))
            book.change(9201, None)
            self.assertEqual(book.calls(), self.to_all(call(2, with_changes()), guests=guests))
            book.tell(CLOCK, DAILY, "room")
            self.assertEqual(book.calls(), self.to_all(call(3, with_changes(rule=DAILY)), guests=guests))
            self.assertEqual(book.version(), 3)

    def test_calls_behind_the_end(self):
        for guests in ([], ["ann"], GUESTS, TWELVE):
            book = book_of(guests=guests)
            book.end()
            for again in range(2):
                self.assertEqual(book.calls(), self.to_all(call(1), end(2), guests=guests))
            self.assertEqual((book.version(), book.over()), (2, True))
        self.assertEqual(ended_book().calls(), self.to_all(call(2, with_changes((9198, OFF), (9201, OFF))), end(3)))


class Telling(Doing):

    def test_told_anew(self):
        book = book_of()
        telling = (TURNED, DAILY, "hall", ((9201, OFF),))
        self.assertEqual(book.tell(TURNED, DAILY, "hall"), self.to_all(call(2, telling)))
        self.assertEqual((book.version(), book.telling(), book.at(1), book.at(2)), (2, telling, TELLING, telling))
        self.assertEqual(book.lost(), [])

    def test_by_one_thing_only(self):
        book = book_of()
        self.assertEqual(book.tell(TURNED, RULE, "room"), self.to_all(call(2, (TURNED,) + TELLING[1:])))
        self.assertEqual(book.tell(TURNED, RULE, "hall"), self.to_all(call(3, (TURNED, RULE, "hall", TELLING[3]))))
        ended = RULE[:4] + (("until", 99990),)
        # The same days by another rule are another telling.
        self.assertEqual(book.tell(TURNED, ended, "hall"), self.to_all(call(4, (TURNED, ended, "hall", TELLING[3]))))

    def test_as_it_is(self):
        for telling in (TELLING, with_changes()):
            book = book_of(telling)
            self.assertEqual(book.tell(CLOCK, RULE, "room"), [])
            self.assertEqual((book.version(), book.telling(), book.lost()), (1, telling, []))
            book.change(9201, MOVED)
            self.assertEqual(book.tell(CLOCK, RULE, "room"), [])
            self.assertEqual(book.version(), 2)

    def test_what_is_lost_is_kept_with_its_version(self):
        book = book_of(with_changes((9198, OFF), (9201, MOVED), (9205, OFF)))
        mondays = (9198, 540, 60, ("weeks", 1, (0,)), None)
        sent = book.tell(CLOCK, mondays, "room")
        self.assertEqual(sent, self.to_all(call(2, with_changes((9198, OFF), (9205, OFF), rule=mondays))))
        self.assertEqual(book.lost(), [(2, 9201, "between")])
        book.change(9198, None)
        book.change(9212, OFF)
        book.tell(CLOCK, (9199, 540, 60, ("once",), None), "room")
        self.assertEqual(book.lost(), [(2, 9201, "between"), (5, 9205, "behind"), (5, 9212, "behind")])
        book.end()
        self.assertEqual(book.lost(), [(2, 9201, "between"), (5, 9205, "behind"), (5, 9212, "behind")])

    def test_bare_ones_are_left_out(self):
        book = book_of(with_changes((9201, ("is", 9201, 600, 60, "room"))))
        rule = (9198, 600, 60, ("weeks", 1, (0, 3)), None)
        self.assertEqual(book.tell(CLOCK, rule, "room"), self.to_all(call(2, with_changes(rule=rule))))
        self.assertEqual(book.lost(), [])


class Changing(Doing):

    def test_put_and_taken_back(self):
        for guests in ([], ["ann"], GUESTS, TWELVE):
            book = book_of(guests=guests)
            self.assertEqual(book.change(9198, MOVED), self.to_all(day(2, 9198, MOVED), guests=guests))
            self.assertEqual(book.change(9198, OFF), self.to_all(day(3, 9198, OFF), guests=guests))
            self.assertEqual(book.change(9198, None), self.to_all(day(4, 9198, None), guests=guests))
            self.assertEqual(book.telling(), TELLING)
            self.assertEqual(book.version(), 4)
            self.assertEqual([book.at(version)[3] for version in (1, 2, 3, 4)],
                             [((9201, OFF),), ((9198, MOVED), (9201, OFF)), ((9198, OFF), (9201, OFF)), ((9201, OFF),)])

    def test_a_bare_one_takes_back(self):
        book = book_of()
        self.assertEqual(book.change(9201, ("is", 9201, 540, 60, "room")), self.to_all(day(2, 9201, None)))
        self.assertEqual(book.telling(), with_changes())

    def test_as_it_is(self):
        book = book_of()
        for on, change in ((9201, OFF), (9198, None), (9198, ("is", 9198, 540, 60, "room")), (99988, None)):
            self.assertEqual(book.change(on, change), [])
        self.assertEqual((book.version(), book.telling()), (1, TELLING))

    def test_no_day(self):
        book = book_of()
        for on in (9199, 9197, 0, -1, 99999, HUGE):
            for change in (None, OFF, MOVED):
                self.refused(book, NoDay, "day", on, lambda: book.change(on, change))

    def test_a_hundred_changes_and_one_more(self):
        book = book_of(with_changes(rule=DAILY))
        for step in range(100):
            book.change(9198 + step, OFF)
        self.assertEqual((book.version(), len(book.telling()[3])), (101, 100))
        for change in (OFF, MOVED):
            self.refused(book, TooMany, "most", 100, lambda: book.change(9300, change))
        self.refused(book, NoDay, "day", 9197, lambda: book.change(9197, OFF))
        self.assertEqual(book.change(9300, None), [])
        self.assertEqual(book.change(9198, MOVED), self.to_all(day(102, 9198, MOVED)))
        book.change(9198, None)
        self.assertEqual(book.change(9300, OFF), self.to_all(day(104, 9300, OFF)))


class Ending(Doing):

    def test_the_end(self):
        for guests in ([], ["ann"], GUESTS, TWELVE):
            book = book_of(guests=guests)
            self.assertEqual(book.end(), self.to_all(end(2), guests=guests))
            self.assertIs(book.over(), True)
            self.assertEqual((book.version(), book.telling(), book.at(1), book.at(2)), (2, TELLING, TELLING, TELLING))

    def test_over_ahead_of_all_else(self):
        book = book_of(with_changes(*[(9198 + step, OFF) for step in range(100)], rule=DAILY), TWELVE)
        book.take(("offer", "standup", "ga", "phone", 1, 1, 9300, (9301, 5, 5)))
        book.end()
        for deed in (
                lambda: book.end(), lambda: book.tell(CLOCK, RULE, "room"), lambda: book.tell(CLOCK, DAILY, "room"),
                lambda: book.change(9198, None), lambda: book.change(9198, OFF), lambda: book.change(9300, OFF),
                lambda: book.change(9197, OFF), lambda: book.invite("ga"), lambda: book.invite("zoe"),
                lambda: book.accept("ga", 9300), lambda: book.accept("zoe", 9300), lambda: book.accept("ga", 9301),
                lambda: book.deny("ga", 9300), lambda: book.deny("zoe", 9300), lambda: book.deny("ga", 9301)):
            self.refused(book, Over, None, None, deed)
        self.assertEqual(book.offers(), [("ga", 9300, (9301, 5, 5))])


class Inviting(Doing):

    def test_invited(self):
        book = book_of(guests=[])
        self.assertEqual(book.invite("bob"), [("bob", call(1))])
        book.change(9201, None)
        self.assertEqual(book.invite("ann"), [("ann", call(2, with_changes()))])
        self.assertEqual((book.guests(), book.version()), (["ann", "bob"], 2))
        self.assertEqual(book.change(9201, OFF), self.to_all(day(3, 9201, OFF), guests=["ann", "bob"]))

    def test_twice_ahead_of_too_many(self):
        book = book_of(guests=TWELVE)
        for guest in TWELVE:
            self.refused(book, Twice, "name", guest, lambda: book.invite(guest))
        for guest in ("zoe", "a", "caller"):
            self.refused(book, TooMany, "most", 12, lambda: book.invite(guest))
        book = book_of(guests=TWELVE[1:])
        self.refused(book, Twice, "name", "ga", lambda: book.invite("ga"))
        self.assertEqual(book.invite("caller"), [("caller", call(1))])
        self.refused(book, Twice, "name", "caller", lambda: book.invite("caller"))

    def test_more_guests_than_twelve_at_first_raise_no_error(self):
        book = book_of(guests=TWELVE + ["zoe"])
        self.assertEqual(len(book.calls()), 13)
        self.refused(book, TooMany, "most", 12, lambda: book.invite("ann"))


class At(Doing):

    def test_each_version(self):
        book = book_of()
        tellings = [TELLING]
        for on in (9198, 9205, 9198, 9208):
            book.change(on, OFF if on != 9198 or len(tellings) == 1 else None)
            tellings.append(book.telling())
        book.tell(TURNED, DAILY, "hall")
        book.end()
        tellings += [book.telling(), book.telling()]
        self.assertEqual([book.at(version) for version in range(1, 8)], tellings)
        self.assertEqual(len({str(telling) for telling in tellings}), 6)

    def test_versions_somewhat_beyond_raise_no_error(self):
        for version in (0, -1, 2, 9):
            self.assertIs(book_of().at(version), None)


class Since(Doing):

    def sinces(self, book, *days):
        return [book.since(on) for on in days]

    def test_a_new_book(self):
        self.assertEqual(self.sinces(book_of(), *DAYS), [1] * len(DAYS))

    def test_a_changed_day_and_the_others(self):
        book = book_of()
        book.change(9205, OFF)
        self.assertEqual(self.sinces(book, 9198, 9201, 9205, 9208), [1, 1, 2, 1])
        book.change(9198, MOVED)
        self.assertEqual(self.sinces(book, 9198, 9201, 9205, 9208), [3, 1, 2, 1])
        book.end()
        self.assertEqual(self.sinces(book, 9198, 9201, 9205, 9208), [3, 1, 2, 1])

    def test_changed_and_changed_back(self):
        book = book_of()
        book.change(9198, MOVED)
        book.change(9198, None)
        self.assertEqual(self.sinces(book, 9198, 9201), [3, 1])
        book.change(9205, OFF)
        self.assertEqual(book.since(9198), 3)
        book.tell(CLOCK, RULE[:1] + (600,) + RULE[2:], "room")
        book.tell(CLOCK, RULE, "room")
        self.assertEqual(self.sinces(book, 9198, 9201, 9205, 9208), [6, 1, 4, 6])

    def test_the_same_by_a_change_and_by_the_rule(self):
        # What the change told, the new rule tells itself, and the old rule's the change.
        book = book_of(with_changes((9201, ("is", 9201, 600, 60, "room"))))
        later = RULE[:1] + (600,) + RULE[2:]
        book.tell(CLOCK, later, "room")
        self.assertEqual(book.telling(), with_changes(rule=later))
        self.assertEqual(self.sinces(book, 9198, 9201), [2, 1])
        book.change(9201, ("is", 9201, 540, 60, "room"))
        book.tell(CLOCK, RULE, "room")
        self.assertEqual(book.telling(), with_changes())
        self.assertEqual(self.sinces(book, 9198, 9201, 9205), [4, 3, 4])

    def test_the_same_by_another_clock_or_local_time(self):
        book = book_of(with_changes())
        # An hour later by a clock that is an hour further ahead.
        book.tell(((0, 120),), RULE[:1] + (600,) + RULE[2:], "room")
        self.assertEqual(self.sinces(book, *DAYS), [1] * len(DAYS))
        book.tell(((0, 120), (1440 * 9203, 60)), RULE[:1] + (600,) + RULE[2:], "room")
        self.assertEqual(self.sinces(book, 9198, 9201, 9205, 9208), [1, 1, 3, 3])
        # Another clock that is the same until then; other turns that tell the same.
        book.tell(((0, 120), (5000, 120), (1440 * 9203, 60), (1440 * 9300, 600)), RULE[:1] + (600,) + RULE[2:], "room")
        self.assertEqual(self.sinces(book, 9198, 9205, 9702), [1, 3, 4])

    def test_another_local_time_at_the_same_moment(self):
        # Local times that are leapt over all come at the leap.
        leap = ((0, 0), (1440 * 9198 + 540, 60))
        book = book_of((leap, RULE, "room", ()))
        book.change(9198, ("is", 9198, 570, 60, "room"))
        self.assertEqual((book.version(), book.since(9198)), (2, 1))
        book.change(9198, ("is", 9198, 570, 61, "room"))
        self.assertEqual(book.since(9198), 3)
        book.change(9198, ("is", 9198, 570, 61, "hall"))
        self.assertEqual(book.since(9198), 4)
        book.change(9198, ("is", 9198, 545, 61, "hall"))
        self.assertEqual(book.since(9198), 4)

    def test_a_place_that_is_other(self):
        book = book_of()
        book.tell(CLOCK, RULE, "hall")
        self.assertEqual(self.sinces(book, 9198, 9201, 9199), [2, 1, 1])

    def test_a_day_that_is_none_of_the_rules(self):
        book = book_of()
        book.change(9205, OFF)
        self.assertEqual(self.sinces(book, 9199, 0, 99999), [1, 1, 1])
        book.tell(CLOCK, DAILY, "room")
        self.assertEqual(self.sinces(book, 9199, 9201, 9198, 9205), [3, 1, 1, 2])
        book.tell(CLOCK, RULE, "room")
        self.assertEqual(self.sinces(book, 9199, 9201, 9198, 9205), [4, 1, 1, 2])

    def test_the_first_and_the_last_day_of_all(self):
        first_rule = (2, 540, 60, ("days", 1), None)
        book = book_of(with_changes(rule=first_rule))
        self.assertEqual(self.sinces(book, 0, 1, 2, 99990, 99991, 99999), [1] * 6)
        book.change(2, OFF)
        book.change(99990, OFF)
        self.assertEqual(self.sinces(book, 0, 1, 2, 3, 99989, 99990, 99991, 99999), [1, 1, 2, 1, 1, 3, 1, 1])
        book.tell(CLOCK, (3, 540, 60, ("days", 1), ("until", 99989)), "room")
        self.assertEqual(self.sinces(book, 0, 1, 2, 3, 99989, 99990, 99999), [1, 1, 2, 1, 1, 3, 1])


class Drawn(Doing):

    def drawn_change(self, chance):
        return chance.choice((None, OFF, MOVED, ("is", 9198, 540, 60, "room"), ("is", 9201, 600, 60, "room"),
                              ("is", 9205, 600, 45, "hall")))

    def deed(self, chance):
        """A deed's name and what is handed in."""
        rules = (RULE, RULE, DAILY, RULE[:1] + (600,) + RULE[2:], (9198, 540, 60, ("weeks", 1, (0, 1, 3)), ("times", 4)),
                 (9199, 540, 60, ("months", 1, 10), None), (9201, 600, 60, ("weeks", 2, (3,)), ("until", 9230)))
        kind = chance.choice(("change",) * 8 + ("tell",) * 4 + ("calls", "invite", "end"))
        if kind == "change":
            return (kind, chance.choice((9198, 9198, 9199, 9201, 9201, 9205, 9208)), self.drawn_change(chance))
        if kind == "tell":
            clocks = (CLOCK, CLOCK, TURNED, ((0, 120),))
            return (kind, chance.choice(clocks), chance.choice(rules), chance.choice(("room", "room", "hall")))
        if kind == "invite":
            return (kind, chance.choice(("ann", "dan", "eve", "caller", "zoe")))
        return (kind,)

    def test_drawn_deeds(self):
        chance = random.Random(21)
        seen = set()
        for again in range(60):
            guests = chance.choice(([], ["ann"], GUESTS, TWELVE[:11]))
            book, plain = book_of(TELLING, guests), PlainBook("standup", TELLING, guests)
            for step in range(chance.randint(5, 25)):
                name, *parts = self.deed(chance)
                try:
                    sent = getattr(plain, name)(*parts)
                except Refusal as refusal:
                    with self.assertRaises(Exception) as caught:
                        getattr(book, name)(*parts)
                    self.assertEqual(type(caught.exception).__name__, refusal.args[0])
                    if refusal.args[1] is not None:
                        self.assertIn(refusal.args[1], vars(caught.exception).values())
                    seen.add(refusal.args[0])
                else:
                    self.assertEqual(getattr(book, name)(*parts), sent)
                    self.assertTrue(all(is_letter(letter) for guest, letter in sent))
                self.assertEqual(state(book, DAYS), plain_state(plain, DAYS))
        self.assertEqual(seen, {"Over", "NoDay", "Twice", "TooMany"})


class PlainAndTheSame(Doing):

    def test_what_is_told_is_of_the_plain_kinds(self):
        book = Book(own("standup"), own(TELLING), own(GUESTS))
        told = [book.calls(), book.change(own(9198), own(MOVED)), book.invite(own("dan")),
                book.tell(own(CLOCK), own(DAILY), own("room")), book.change(own(9199), own(OFF)),
                book.tell(own(CLOCK), own((9300, 540, 60, ("once",), None)), own("hall")), book.end(), book.calls()]
        self.assertTrue(all(plain_kinds(part) for part in told), told)
        self.assertTrue(plain_kinds(list(state(book, DAYS))))
        self.assertTrue(plain_kinds([book.since(own(9198)), book.at(own(2))]))

    def test_the_fields_of_refusals_are_of_the_plain_kinds(self):
        book = Book("standup", TELLING, own(GUESTS))
        self.refused(book, Twice, "name", "ann", lambda: book.invite(own("ann")))
        self.refused(book, NoDay, "day", 9199, lambda: book.change(own(9199), None))

    def test_told_lists_are_the_askers_own(self):
        book = book_of(with_changes((9198, OFF), (9201, OFF)))
        book.tell(CLOCK, (9198, 540, 60, ("weeks", 1, (0,)), None), "room")
        before = state(book, DAYS)
        for told in (book.calls, book.guests, book.lost):
            self.assertTrue(told())
            told().append(None)
            told().clear()
            told()[0] = 5
            self.assertEqual(state(book, DAYS), before)
        sent = book.change(9198, None)
        sent.clear()
        self.assertEqual(len(book.calls()), 3)

    def test_what_was_handed_in_is_copied(self):
        guests = ["bob", "ann"]
        book = Book("standup", TELLING, guests)
        guests.append("cid")
        guests.sort()
        self.assertEqual(book.guests(), ["ann", "bob"])
        book.invite("dan")
        self.assertEqual(guests, ["ann", "bob", "cid"])

    def test_books_of_one_list_are_apart(self):
        one, other = book_of(), book_of()
        one.invite("dan")
        one.change(9198, OFF)
        one.end()
        self.assertEqual(state(other, DAYS), state(book_of(), DAYS))

    def test_each_method_is_the_classes_own(self):
        for name in """calls tell change end invite accept deny take version telling over guests at lost since word
                       offers""".split():
            self.assertIn(name, vars(Book))


if __name__ == "__main__":
    unittest.main()
