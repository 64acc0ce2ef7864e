"""Point [3]: a book, copies and seats of several guests, and letters in any order, late and twice."""

import random
import unittest

from guestcopies.books import Book
from guestcopies.copies import Copy
from guestcopies.errors import GuestError, Over
from guestcopies.seats import Seat
from plaincopies import state
from plaintellings import plain_moment_told

CLOCK = ((0, 60),)
OFF = ("off",)
RULE = (9198, 540, 60, ("weeks", 1, (0, 3)), None)
TELLING = (CLOCK, RULE, "room", ((9201, OFF),))
DAYS = (9198, 9199, 9201, 9205, 9208)
RULES = (RULE, RULE[:1] + (600,) + RULE[2:], (9198, 540, 60, ("days", 1), None), (9198, 540, 60, ("weeks", 1, (1, 3)), ("times", 5)))


def drawn_deed(chance, book):
    """Do something drawn in the book; what is sent."""
    on = chance.choice(DAYS)
    kind = chance.choice(("change",) * 6 + ("tell", "tell", "calls", "invite", "end"))
    try:
        if kind == "change":
            return book.change(on, chance.choice((None, OFF, ("is", on, 600, 60, "room"), ("is", 9200, 700, 45, "hall"))))
        if kind == "tell":
            return book.tell(chance.choice((CLOCK, ((0, 120),))), chance.choice(RULES), chance.choice(("room", "hall")))
        if kind == "invite":
            return book.invite(chance.choice(("ann", "cid", "dan")))
        if kind == "end":
            return book.end() if chance.random() < 0.3 else []
        return book.calls()
    except GuestError:
        return []


class Whole(unittest.TestCase):

    def is_of_one_version(self, book, copy):
        """A copy tells what the book told at the version that it names, and names what it lacks."""
        version = copy.version()
        if version == 0:
            self.assertIs(copy.telling(), None)
            self.assertIs(copy.over(), False)
        else:
            self.assertLessEqual(version, book.version())
            self.assertEqual(copy.telling(), book.at(version))
            self.assertIs(copy.over(), book.over() and version == book.version())
        self.assertLessEqual(copy.newest(), book.version())
        self.assertEqual(version == copy.newest(), version > 0 and not copy.lacking() or not copy.kept())

    def is_the_newest(self, book, copy):
        self.assertEqual((copy.version(), copy.newest(), copy.lacking()), (book.version(), book.version(), []))
        self.assertEqual((copy.telling(), copy.over()), (book.telling(), book.over()))

    def drawn_run(self, chance):
        """A book, and what it sent, as a list of tuples (guest, letter)."""
        book = Book("standup", TELLING, ["ann", "bob"])
        sent = book.calls()
        for step in range(chance.randint(0, 15)):
            sent += drawn_deed(chance, book)
        return book, sent

    def test_copies(self):
        chance = random.Random(3)
        ends = 0
        for again in range(200):
            book, sent = self.drawn_run(chance)
            ends += book.over()
            for guest in book.guests():
                letters = [letter for to, letter in sent if to == guest]
                copy = Copy("standup")
                late = letters + [chance.choice(letters) for step in letters]
                chance.shuffle(late)
                for letter in late:
                    self.is_of_one_version(book, copy)
                    copy.take(letter)
                self.is_the_newest(book, copy)
        self.assertGreater(ends, 30)

    def test_what_is_lacking_is_all_that_is_lacking(self):
        chance = random.Random(33)
        for again in range(200):
            book, sent = self.drawn_run(chance)
            letters = [letter for to, letter in sent if to == "ann"]
            copy = Copy("standup")
            for letter in chance.sample(letters, len(letters) // 2):
                copy.take(letter)
            newest = copy.newest()
            lacking = [version for low, high in copy.lacking() for version in range(low, high + 1)]
            for letter in letters:
                if letter[2] in lacking:
                    copy.take(letter)
            self.assertEqual(copy.newest(), newest)
            if copy.version():
                self.assertEqual((copy.version(), copy.lacking()), (newest, []))

    def test_copies_that_are_joined(self):
        chance = random.Random(333)
        for again in range(100):
            book, sent = self.drawn_run(chance)
            letters = [letter for to, letter in sent if to == "ann"]
            copies = [Copy("standup") for place in range(4)]
            for letter in letters:
                for copy in chance.sample(copies, chance.randint(1, 2)):
                    copy.take(letter)
            found = []
            for order in range(4):
                chance.shuffle(copies)
                both = copies[0].joined(copies[1]).joined(copies[2].joined(copies[3]))
                found.append(state(both.joined(chance.choice(copies))))
                self.is_the_newest(book, both)
            self.assertEqual(found, [found[0]] * 4)

    def counts(self, book, version, day):
        """Whether what is told of a day has been the same from a version on, and something is."""
        told = {plain_moment_told(book.at(other), day) for other in range(version, book.version() + 1)}
        return len(told) == 1 and None not in told

    def test_answers_count_as_long_as_what_is_told_is_the_same(self):
        chance = random.Random(3333)
        counting = 0
        for again in range(200):
            book = Book("standup", TELLING, ["ann", "bob"])
            seats = [Seat("standup", "ann", "desk"), Seat("standup", "ann", "phone")]
            last = {}
            for step in range(12):
                for guest, letter in drawn_deed(chance, book) + book.take(("wish", "standup", "ann")):
                    for seat in seats:
                        if guest == "ann" and chance.random() < 0.6:
                            seat.take(letter)
                seat, on = chance.choice(seats), chance.choice(DAYS + (None,))
                try:
                    letter = seat.answer(on, chance.choice(("yes", "no", "perhaps")))
                except GuestError:
                    continue
                # The other seat hears of it, so that no number is used twice.
                seats[0].take(letter)
                seats[1].take(letter)
                book.take(letter)
                last[on] = letter
                for day in DAYS:
                    some = [last[key] for key in (day, None) if key in last and self.counts(book, last[key][5], day)]
                    best = max(some, key=lambda other: (other[4], other[3]), default=None)
                    self.assertEqual(book.word("ann", day), best and best[7])
                    counting += best is not None
        self.assertGreater(counting, 1000)

    def test_each_change_lives_on_or_is_told_lost(self):
        chance = random.Random(33333)
        for again in range(100):
            book, sent = self.drawn_run(chance)
            before = book.telling()
            many = len(book.lost())
            try:
                book.tell(CLOCK, chance.choice(RULES), "attic")
            except Over:
                continue
            lost = [day for version, day, why in book.lost()[many:]]
            days = [day for day, change in before[3]]
            self.assertLessEqual(set(lost), set(days))
            self.assertEqual(len(book.telling()[3]), len(days) - len(lost))

    def test_the_same_hour_by_the_callers_clock(self):
        turn = 1440 * 9203
        book = Book("standup", (((0, 60), (turn, 120)), RULE, "room", ()), ["ann"])
        self.assertEqual([plain_moment_told(book.telling(), day)[0] - 1440 * day for day in (9198, 9201, 9205)], [480, 480, 420])
        book.tell(CLOCK, RULE, "room")
        self.assertEqual([book.since(day) for day in (9198, 9201, 9205, 9208)], [1, 1, 2, 2])


if __name__ == "__main__":
    unittest.main()
