"""Point [3]: a book, copies and seats of several guests, letters in any order, late and twice, and all of it by a desk."""

import random
import unittest

from guestcopies.books import Book
from guestcopies.copies import Copy
from guestcopies.desk import Desk
from guestcopies.errors import GuestError, Over
from guestcopies.seats import Seat
from guestcopies.tellingtexts import show_telling
from plaincopies import state
from plaintellings import plain_moment_told

CLOCK = ((0, 60),)
OFF = ("off",)
RULE = (9198, 540, 60, ("weeks", 1, (0, 3)), None)
TELLING = (CLOCK, RULE, "room", ((9201, OFF),))
DAYS = (9198, 9199, 9201, 9205, 9208)
RULES = (RULE, RULE[:1] + (600,) + RULE[2:], (9198, 540, 60, ("days", 1), None), (9198, 540, 60, ("weeks", 1, (1, 3)), ("times", 5)))


def drawn_deed(chance, book):
    """Do something drawn in the book; what is sent."""
    on = chance.choice(DAYS)
    kind = chance.choice(("change",) * 6 + ("tell", "tell", "calls", "invite", "end"))
    try:
        if kind == "change":
            return book.change(on, chance.choice((None, OFF, ("is", on, 600, 60, "room"), ("is", 9200, 700, 45, "hall"))))
        if kind == "tell":
            return book.tell(chance.choice((CLOCK, ((0, 120),))), chance.choice(RULES), chance.choice(("room", "hall")))
        if kind == "invite":
            return book.invite(chance.choice(("ann", "cid", "dan")))
        if kind == "end":
            return book.end() if chance.random() < 0.3 else []
        return book.calls()
    except GuestError:
        return []


class Whole(unittest.TestCase):

    def is_of_one_version(self, book, copy):
        """A copy tells what the book told at the version that it names, and names what it lacks."""
        version = copy.version()
        if version == 0:
            self.assertIs(copy.telling(), None)
            self.assertIs(copy.over(), False)
        else:
            self.assertLessEqual(version, book.version())
            self.assertEqual(copy.telling(), book.at(version))
            self.assertIs(copy.over(), book.over() and version == book.version())
        self.assertLessEqual(copy.newest(), book.version())
        self.assertEqual(version == copy.newest(), version > 0 and not copy.lacking() or not copy.kept())

    def is_the_newest(self, book, copy):
        self.assertEqual((copy.version(), copy.newest(), copy.lacking()), (book.version(), book.version(), []))
        self.assertEqual((copy.telling(), copy.over()), (book.telling(), book.over()))

    def drawn_run(self, chance):
        """A book, and what it sent, as a list of tuples (guest, letter)."""
        book = Book("standup", TELLING, ["ann", "bob"])
        sent = book.calls()
        for step in range(chance.randint(0, 15)):
            sent += drawn_deed(chance, book)
        return book, sent

    def test_copies(self):
        chance = random.Random(3)
        ends = 0
        for again in range(200):
            book, sent = self.drawn_run(chance)
            ends += book.over()
            for guest in book.guests():
                letters = [letter for to, letter in sent if to == guest]
                copy = Copy("standup")
                late = letters + [chance.choice(letters) for step in letters]
                chance.shuffle(late)
                for letter in late:
                    self.is_of_one_version(book, copy)
                    copy.take(letter)
                self.is_the_newest(book, copy)
        self.assertGreater(ends, 30)

    def test_what_is_lacking_is_all_that_is_lacking(self):
        chance = random.Random(33)
        for again in range(200):
            book, sent = self.drawn_run(chance)
            letters = [letter for to, letter in sent if to == "ann"]
            copy = Copy("standup")
            for letter in chance.sample(letters, len(letters) // 2):
                copy.take(letter)
            newest = copy.newest()
            lacking = [version for low, high in copy.lacking() for version in range(low, high + 1)]
            for letter in letters:
                if letter[2] in lacking:
                    copy.take(letter)
            self.assertEqual(copy.newest(), newest)
            if copy.version():
                self.assertEqual((copy.version(), copy.lacking()), (newest, []))

    def test_copies_that_are_joined(self):
        chance = random.Random(333)
        for again in range(100):
            book, sent = self.drawn_run(chance)
            letters = [letter for to, letter in sent if to == "ann"]
            copies = [Copy("standup") for place in range(4)]
            for letter in letters:
                for copy in chance.sample(copies, chance.randint(1, 2)):
                    copy.take(letter)
            found = []
            for order in range(4):
                chance.shuffle(copies)
                both = copies[0].joined(copies[1]).joined(copies[2].joined(copies[3]))
                found.append(state(both.joined(chance.choice(copies))))
                self.is_the_newest(book, both)
            self.assertEqual(found, [found[0]] * 4)

    def counts(self, book, version, day):
        """Whether what is told of a day has been the same from a version on, and something is."""
        told = {plain_moment_told(book.at(other), day) for other in range(version, book.version() + 1)}
        return len(told) == 1 and None not in told

    def test_answers_count_as_long_as_what_is_told_is_the_same(self):
        chance = random.Random(3333)
        counting = 0
        for again in range(200):
            book = Book("standup", TELLING, ["ann", "bob"])
            seats = [Seat("standup", "ann", "desk"), Seat("standup", "ann", "phone")]
            last = {}
            for step in range(12):
                for guest, letter in drawn_deed(chance, book) + book.take(("wish", "standup", "ann")):
                    for seat in seats:
                        if guest == "ann" and chance.random() < 0.6:
                            seat.take(letter)
                seat, on = chance.choice(seats), chance.choice(DAYS + (None,))
                try:
                    letter = seat.answer(on, chance.choice(("yes", "no", "perhaps")))
                except GuestError:
                    continue
                # The other seat hears of it, so that no number is used twice.
                seats[0].take(letter)
                seats[1].take(letter)
                book.take(letter)
                last[on] = letter
                for day in DAYS:
                    some = [last[key] for key in (day, None) if key in last and self.counts(book, last[key][5], day)]
                    best = max(some, key=lambda other: (other[4], other[3]), default=None)
                    self.assertEqual(book.word("ann", day), best and best[7])
                    counting += best is not None
        self.assertGreater(counting, 1000)

    def test_each_change_lives_on_or_is_told_lost(self):
        chance = random.Random(33333)
        for again in range(100):
            book, sent = self.drawn_run(chance)
            before = book.telling()
            many = len(book.lost())
            try:
                book.tell(CLOCK, chance.choice(RULES), "attic")
            except Over:
                continue
            lost = [day for version, day, why in book.lost()[many:]]
            days = [day for day, change in before[3]]
            self.assertLessEqual(set(lost), set(days))
            self.assertEqual(len(book.telling()[3]), len(days) - len(lost))

    def test_the_same_hour_by_the_callers_clock(self):
        turn = 1440 * 9203
        book = Book("standup", (((0, 60), (turn, 120)), RULE, "room", ()), ["ann"])
        self.assertEqual([plain_moment_told(book.telling(), day)[0] - 1440 * day for day in (9198, 9201, 9205)], [480, 480, 420])
        book.tell(CLOCK, RULE, "room")
        self.assertEqual([book.since(day) for day in (9198, 9201, 9205, 9208)], [1, 1, 2, 2])


class ByADesk(unittest.TestCase):

    GUESTS, HOLDERS = ("ann", "bob", "caller"), ("desk", "phone")
    DATES = ("2026-03-09", "2026-03-12", "2026-03-16")

    def rows(self, chance):
        """Drawn rows of one meeting, with its deeds, its guests' letters and some that are brought."""
        date, guest, holder = chance.choice(self.DATES), chance.choice(self.GUESTS), chance.choice(self.HOLDERS)
        anew = show_telling((CLOCK, chance.choice(RULES), chance.choice(("room", "hall")), ()))
        return chance.choice((
            f"change standup {date} off", f"change standup {date} back", f"change standup {date} is 2026-03-11 10:00 45 hall",
            f"tell standup\n{anew}", "calls standup", f"invite standup {guest}", f"accept standup {guest} {date}",
            f"deny standup {guest} {date}", f"answer standup {guest} {holder} {date} yes", f"answer standup {guest} {holder} all no",
            f"offer standup {guest} {holder} {date} 2026-03-13 10:00 45", f"wish standup {guest} {holder}",
            "end standup" if chance.random() < 0.1 else "waiting") + tuple(f"bring {chance.randint(1, 40)}" for again in range(6)))

    def told_at_each_version(self, shown, desk):
        """Each text that the book showed so far, with the newest one."""
        if desk.say("show standup") != shown[-1]:
            shown.append(desk.say("show standup"))

    def test_each_seat_tells_what_the_book_told_and_at_last_its_newest(self):
        chance = random.Random(333333)
        for again in range(60):
            desk = Desk()
            seats = [f"standup {guest} {holder}" for guest in self.GUESTS for holder in self.HOLDERS]
            for seat in seats:
                desk.say(f"seat {seat}")
            desk.say("book standup ann bob\n" + show_telling(TELLING))
            shown = ["none", show_telling(TELLING)]
            for step in range(60):
                try:
                    desk.say(self.rows(chance))
                except GuestError:
                    pass
                self.told_at_each_version(shown, desk)
                for seat in seats:
                    self.assertIn(desk.say(f"see {seat}"), shown)
            self.all_comes(chance, desk)
            guests = [word.split(" ")[0] for word in desk.say("words standup 2026-03-09").split("; ")]
            for seat in seats:
                invited = seat.split(" ")[1] in guests
                self.assertEqual(desk.say(f"see {seat}"), shown[-1] if invited else "none")
                versions = desk.say(f"versions {seat}").split(" ")
                self.assertEqual((len(versions), versions[0]), (2, versions[1]))

    def all_comes(self, chance, desk):
        """Bring all that was never brought, in a drawn order and some of it twice."""
        refused = set()
        while left := [number for number in desk.say("waiting").split() if number not in refused]:
            number = chance.choice(left)
            try:
                for again in range(chance.choice((1, 1, 2))):
                    desk.say(f"bring {number}")
            except GuestError:
                # A letter of one who is no guest.
                refused.add(number)


if __name__ == "__main__":
    unittest.main()
