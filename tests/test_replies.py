"""Points [23] and [24]: what a book hears from its guests."""

import itertools
import random
import unittest

from guestcopies.books import Book
from guestcopies.errors import NoGuest, NoLetter, NoOffer, NoVersion, Over, TooMany
from guestcopies.letters import is_letter
from plainbooks import PlainBook, Refusal, plain_state, state
from things import anything, own, plain_kinds

MOST = 999999999
CLOCK = ((0, 60),)
OFF = ("off",)
# By Mondays and Thursdays; 9198 is a Monday.
RULE = (9198, 540, 60, ("weeks", 1, (0, 3)), None)
LATER = (9198, 600, 60, ("weeks", 1, (0, 3)), None)
DAILY = (9198, 540, 60, ("days", 1), None)
TELLING = (CLOCK, RULE, "room", ((9201, OFF),))
MOVED = ("is", 9200, 600, 45, "hall")
SLOT = (9199, 700, 30)
DAYS = (2, 9197, 9198, 9199, 9201, 9205, 9208, 99990)
GUESTS = ["ann", "bob", "cid"]


def answer(on, word="yes", number=1, version=1, guest="ann", holder="phone"):
    return ("answer", "standup", guest, holder, number, version, on, word)


def offer(on, slot=SLOT, number=1, version=1, guest="ann", holder="phone"):
    return ("offer", "standup", guest, holder, number, version, on, slot)


def wish(guest="ann"):
    return ("wish", "standup", guest)


def book_of(*letters, telling=TELLING, guests=GUESTS):
    book = Book("standup", telling, guests)
    for letter in letters:
        book.take(letter)
    return book


class Hearing(unittest.TestCase):

    def refused(self, book, kind, worth, deed):
        """What is refused, with this field where it has one, changes nothing."""
        before = state(book, DAYS)
        with self.assertRaises(kind) as caught:
            deed()
        self.assertIs(type(caught.exception), kind)
        if worth is not None:
            self.assertEqual(list(vars(caught.exception).values()), [worth])
            self.assertIs(type(list(vars(caught.exception).values())[0]), type(worth))
        self.assertEqual(state(book, DAYS), before)

    def words(self, book, guest="ann", days=(9198, 9201, 9205, 9208)):
        return [book.word(guest, on) for on in days]


class Taking(Hearing):

    def test_an_answer_for_a_day(self):
        for word in ("yes", "no", "perhaps"):
            book = book_of()
            self.assertEqual(book.take(answer(9198, word)), [])
            self.assertEqual(self.words(book), [word, None, None, None])
            self.assertEqual(self.words(book, "bob"), [None] * 4)
            self.assertEqual((book.version(), book.offers()), (1, []))

    def test_an_answer_for_all_days(self):
        book = book_of(answer(None, "perhaps"))
        # 9201 is dropped.
        self.assertEqual(self.words(book), ["perhaps", None, "perhaps", "perhaps"])
        self.assertEqual(self.words(book, days=(9199, 9197, 2, 99990, 0, 99999)), [None] * 6)

    def test_an_offer(self):
        book = book_of(offer(9198))
        self.assertEqual(self.words(book), ["other", None, None, None])
        self.assertEqual(book.offers(), [("ann", 9198, SLOT)])

    def test_the_greatest_number_and_holder_is_kept(self):
        letters = [answer(9198, "yes", 1), answer(9198, "no", 2, holder="desk"), answer(9198, "perhaps", 2, holder="phone"),
                   offer(9198, SLOT, 2, holder="car")]
        for order in itertools.permutations(letters):
            book = Book("standup", TELLING, GUESTS)
            for many, letter in enumerate(order):
                for again in range(2):
                    self.assertEqual(book.take(letter), [])
                last = max(order[:many + 1], key=lambda other: (other[4], other[3]))
                self.assertEqual(book.word("ann", 9198), "other" if last[0] == "offer" else last[7])
            self.assertEqual((book.word("ann", 9198), book.offers()), ("perhaps", []))

    def test_for_the_day_and_for_all_days(self):
        for order in itertools.permutations([answer(9198, "yes", 2), answer(None, "no", 1), answer(9205, "perhaps", 1, holder="zed"),
                                             answer(None, "yes", 1, holder="desk")]):
            self.assertEqual(self.words(book_of(*order)), ["yes", None, "perhaps", "no"])
        for order in itertools.permutations([answer(9198, "yes", 2), answer(None, "no", 3), offer(9205, SLOT, 4)]):
            self.assertEqual(self.words(book_of(*order)), ["no", None, "other", "no"])
        # Numbers are compared as numbers, holders as texts.
        self.assertEqual(self.words(book_of(answer(9198, "yes", 10), answer(None, "no", 9)))[0], "yes")
        self.assertEqual(self.words(book_of(answer(9198, "yes", 5, holder="b"), answer(None, "no", 5, holder="ab")))[0], "yes")

    def test_what_does_not_count_leaves_its_place_to_what_does(self):
        book = book_of(answer(None, "no", 1), answer(9198, "yes", 2))
        book.change(9198, MOVED)
        self.assertEqual(self.words(book), [None, None, "no", "no"])
        book.take(answer(None, "perhaps", 3, 2))
        self.assertEqual(self.words(book), ["perhaps", None, "perhaps", "perhaps"])
        # The elder one of the day is still the one that is kept of it.
        book.take(answer(9198, "no", 1, 2))
        self.assertEqual(self.words(book)[0], "perhaps")

    def test_each_guest_apart(self):
        book = book_of(answer(9198, "yes"), answer(9198, "no", guest="bob"), answer(None, "perhaps", guest="cid"),
                       offer(9205, guest="bob", number=2))
        self.assertEqual([self.words(book, guest) for guest in GUESTS],
                         [["yes", None, None, None], ["no", None, "other", None], ["perhaps", None, "perhaps", "perhaps"]])

    def test_a_wish(self):
        book = book_of()
        call = ("call", "standup", 1, TELLING)
        for guest in GUESTS:
            self.assertEqual(book.take(wish(guest)), [(guest, call)])
        book.change(9201, None)
        self.assertEqual(book.take(wish()), [("ann", ("call", "standup", 2, book.telling()))])
        book.end()
        self.assertEqual(book.take(wish("bob")), [("bob", ("call", "standup", 2, book.telling())), ("bob", ("end", "standup", 3))])
        self.assertEqual(book.version(), 3)

    def test_behind_the_end(self):
        book = book_of(answer(9198, "yes", 1))
        book.end()
        self.assertEqual(self.words(book), ["yes", None, None, None])
        self.assertEqual(book.take(answer(9198, "no", 2)), [])
        self.assertEqual(book.take(answer(9205, "no", 3, 2)), [])
        self.assertEqual(book.take(offer(9208, SLOT, 4, 2)), [])
        self.assertEqual(self.words(book), ["no", None, "no", "other"])
        self.assertEqual(book.offers(), [("ann", 9208, SLOT)])


class Counting(Hearing):

    def test_a_changed_day(self):
        book = book_of(answer(9198, "yes", 1), answer(9205, "no", 2))
        book.change(9198, MOVED)
        self.assertEqual(self.words(book), [None, None, "no", None])
        book.take(answer(9198, "perhaps", 3, 1))
        self.assertEqual(self.words(book)[0], None)
        book.take(answer(9198, "perhaps", 4, 2))
        self.assertEqual(self.words(book)[0], "perhaps")

    def test_never_for_what_came_back(self):
        book = book_of(answer(9198, "yes", 1), answer(None, "no", 2))
        book.change(9198, MOVED)
        book.change(9198, None)
        self.assertEqual(self.words(book), [None, None, "no", "no"])
        book.take(answer(9198, "yes", 3, 2))
        self.assertEqual(self.words(book)[0], None)
        book.take(answer(9198, "yes", 4, 3))
        self.assertEqual(self.words(book)[0], "yes")

    def test_a_dropped_day(self):
        book = book_of(answer(None, "yes", 1), answer(9201, "no", 2))
        self.assertEqual(self.words(book), ["yes", None, "yes", "yes"])
        book.change(9201, None)
        self.assertEqual(self.words(book), ["yes", None, "yes", "yes"])
        book.take(answer(9201, "no", 3, 2))
        self.assertEqual(self.words(book)[1], "no")
        book.change(9201, OFF)
        self.assertEqual(self.words(book)[1], None)

    def test_another_rule(self):
        book = book_of(answer(None, "yes"), answer(9198, "no", 2))
        book.tell(CLOCK, DAILY, "room")
        # What is told of these days is what it was; of the others something is told only now.
        self.assertEqual(self.words(book, days=(9198, 9199, 9201, 9205)), ["no", None, None, "yes"])
        book.tell(CLOCK, LATER, "room")
        self.assertEqual(self.words(book, days=(9198, 9199, 9201, 9205)), [None] * 4)

    def test_another_clock(self):
        book = book_of(answer(None, "yes"))
        book.tell(((0, 120),), LATER, "room")
        self.assertEqual(self.words(book), ["yes", None, "yes", "yes"])
        book.tell(((0, 120), (1440 * 9203, 60)), LATER, "room")
        self.assertEqual(self.words(book), ["yes", None, None, None])

    def test_another_place_or_length(self):
        book = book_of(answer(None, "yes"))
        book.change(9198, ("is", 9198, 540, 61, "room"))
        book.change(9205, ("is", 9205, 540, 60, "hall"))
        self.assertEqual(self.words(book), [None, None, None, "yes"])
        book.tell(CLOCK, RULE, "hall")
        self.assertEqual(self.words(book), [None] * 4)

    def test_an_answer_that_comes_late(self):
        book = book_of()
        book.change(9205, OFF)
        book.change(9198, MOVED)
        for number, version, words in ((1, 1, [None, None, None, "yes"]), (2, 2, [None, None, None, "yes"]),
                                       (3, 3, ["yes", None, None, "yes"])):
            book.take(answer(None, "yes", number, version))
            self.assertEqual(self.words(book), words)

    def test_a_day_moved_by_an_offer(self):
        book = book_of(answer(9198, "yes", guest="bob"), offer(9198))
        book.accept("ann", 9198)
        self.assertEqual((book.word("bob", 9198), book.word("ann", 9198)), (None, "yes"))


class Refused(Hearing):

    def books(self):
        plain, ended = book_of(answer(9198), offer(9205, SLOT, 2)), book_of(answer(9198))
        plain.change(9208, OFF)
        ended.end()
        return (plain, ended)

    def test_no_letter(self):
        for book in self.books():
            for thing in (("call", "standup", 1, TELLING), ("day", "standup", 2, 9198, None), ("end", "standup", 2),
                          ("denied", "standup", "ann", "phone", 1), ("wish", "other", "ann"), ("wish", "other", "zoe"),
                          ("answer", "other", "ann", "phone", 3, 1, 9198, "yes"), ("offer", "x", "zoe", "phone", 3, 9, 9198, SLOT),
                          answer(9198, "other", 5), answer(1, "yes", 5), answer(True, "yes", 5), answer("all", "yes", 5),
                          answer(9198, "yes", 0), answer(9198, "yes", MOST + 1), answer(9198, "yes", 5, 0),
                          answer(9198, "yes", 5, MOST + 1), answer(9198, "yes", 5, 1, "Ann"), answer(9198, "yes", 5, 1, None),
                          answer(9198, "yes", 5, 1, "zoe")[:7], list(answer(9198, "yes", 5)), wish() + (1,), wish()[:2], wish(None),
                          offer(None, SLOT, 5), offer(9198, None, 5), offer(9198, list(SLOT), 5), offer(9198, SLOT + (1,), 5),
                          offer(9198, (9199, 1440, 30), 5), offer(9198, (9199, 700, 0), 5), offer(9198, SLOT, 5, 9, "zoe") + (1,)):
                self.refused(book, NoLetter, None, lambda: book.take(thing))

    def test_things_of_any_kind(self):
        for book in self.books():
            for thing, same in zip(anything(), anything()):
                self.refused(book, NoLetter, None, lambda: book.take(thing))
                self.assertEqual(thing, same)

    def test_no_guest_ahead_of_no_version(self):
        for book in self.books():
            for letter in (answer(9198, "yes", 5, 1, "zoe"), answer(None, "yes", 5, 99, "zoe"), offer(9198, SLOT, 5, MOST, "zoe"),
                           wish("zoe")):
                self.refused(book, NoGuest, "zoe", lambda: book.take(letter))
        self.refused(book, NoGuest, "zoe", lambda: book.word("zoe", 9198))
        self.refused(book, NoGuest, "zoe", lambda: book.word("zoe", 9199))
        nobody = book_of(guests=[])
        self.refused(nobody, NoGuest, "ann", lambda: nobody.take(wish("ann")))

    def test_no_version(self):
        for book in self.books():
            for version in (3, 4, MOST):
                for letter in (answer(9198, "yes", 5, version), answer(None, "no", 5, version), offer(9205, SLOT, 5, version)):
                    self.refused(book, NoVersion, version, lambda: book.take(letter))
            self.assertEqual(book.take(answer(9198, "no", 5, 2)), [])

    def test_a_guest_invited_later(self):
        book = book_of()
        self.refused(book, NoGuest, "zoe", lambda: book.take(answer(9198, "yes", 1, 1, "zoe")))
        book.invite("zoe")
        book.take(answer(9198, "yes", 1, 1, "zoe"))
        self.assertEqual(book.word("zoe", 9198), "yes")


class Offers(Hearing):

    def test_those_that_stand_sorted(self):
        book = book_of(offer(9208, SLOT, 2, guest="bob"), offer(9198, SLOT, 1, guest="bob"), offer(9205, (9300, 0, 1), 1),
                       offer(9201, SLOT, 3, guest="cid"))
        self.assertEqual(book.offers(), [("ann", 9205, (9300, 0, 1)), ("bob", 9198, SLOT), ("bob", 9208, SLOT)])
        # 9201 is dropped; an answer for all days that is greater is bob's word.
        book.take(answer(None, "yes", 2, guest="bob"))
        self.assertEqual(book.offers(), [("ann", 9205, (9300, 0, 1)), ("bob", 9208, SLOT)])
        book.take(answer(None, "yes", 2, guest="bob", holder="zed"))
        self.assertEqual(book.offers(), [("ann", 9205, (9300, 0, 1))])
        book.change(9205, MOVED)
        self.assertEqual(book.offers(), [])

    def test_accepted(self):
        book = book_of(offer(9198), offer(9205, SLOT, 2))
        letter = ("day", "standup", 2, 9198, ("is",) + SLOT + ("room",))
        self.assertEqual(book.accept("ann", 9198), [(guest, letter) for guest in GUESTS])
        self.assertEqual((book.version(), book.telling()[3]), (2, ((9198, letter[4]), (9201, OFF))))
        self.assertEqual(self.words(book), ["yes", None, "other", None])
        self.assertEqual(book.offers(), [("ann", 9205, SLOT)])
        self.refused(book, NoOffer, None, lambda: book.accept("ann", 9198))
        self.refused(book, NoOffer, None, lambda: book.deny("ann", 9198))

    def test_accepted_at_the_place_that_is_told(self):
        book = book_of()
        book.change(9198, MOVED)
        book.take(offer(9198, SLOT, 1, 2))
        book.accept("ann", 9198)
        self.assertEqual(book.telling()[3][0], (9198, ("is",) + SLOT + ("hall",)))
        self.assertEqual((book.version(), book.word("ann", 9198)), (3, "yes"))

    def test_an_accepted_one_that_comes_again(self):
        book = book_of(offer(9198))
        book.accept("ann", 9198)
        for letter in (offer(9198), answer(9198, "no", 1), answer(9198, "no", 1, holder="desk")):
            book.take(letter)
            self.assertEqual((self.words(book)[0], book.offers()), ("yes", []))
        book.take(answer(9198, "no", 1, holder="pz"))
        self.assertEqual(self.words(book)[0], None)
        book.take(offer(9198, SLOT, 2, 2))
        self.assertEqual(self.words(book)[0], "other")

    def test_the_yes_of_an_accepted_one_counts_as_long_as_it_is_told(self):
        book = book_of(offer(9198))
        book.accept("ann", 9198)
        book.change(9205, OFF)
        self.assertEqual(self.words(book)[0], "yes")
        book.change(9198, None)
        self.assertEqual(self.words(book)[0], None)
        book.change(9198, ("is",) + SLOT + ("room",))
        self.assertEqual(self.words(book)[0], None)

    def test_what_is_told_anyway(self):
        book = book_of(offer(9198, (9198, 540, 60)))
        self.assertEqual(book.accept("ann", 9198), [])
        self.assertEqual((book.version(), self.words(book)[0], book.offers()), (1, "yes", []))
        book = book_of()
        book.change(9198, MOVED)
        book.take(offer(9198, MOVED[1:4], 1, 2))
        book.change(9205, OFF)
        self.assertEqual(book.accept("ann", 9198), [])
        self.assertEqual((book.version(), self.words(book)[0]), (3, "yes"))

    def test_an_offer_of_the_rules_own_time_takes_a_change_back(self):
        book = book_of()
        book.change(9198, ("is", 9198, 700, 60, "room"))
        book.take(offer(9198, (9198, 540, 60), 1, 2))
        self.assertEqual(book.accept("ann", 9198), [(guest, ("day", "standup", 3, 9198, None)) for guest in GUESTS])
        self.assertEqual((book.telling(), self.words(book)[0]), (TELLING, "yes"))

    def test_denied(self):
        book = book_of(offer(9198, SLOT, 7), offer(9205, SLOT, 8))
        self.assertEqual(book.deny("ann", 9198), [("ann", ("denied", "standup", "ann", "phone", 7))])
        self.assertEqual((book.version(), book.telling()), (1, TELLING))
        self.assertEqual(self.words(book), ["other", None, "other", None])
        self.assertEqual(book.offers(), [("ann", 9205, SLOT)])
        for again in range(2):
            self.refused(book, NoOffer, None, lambda: book.deny("ann", 9198))
            self.refused(book, NoOffer, None, lambda: book.accept("ann", 9198))
            book.take(offer(9198, SLOT, 7))
        book.take(offer(9198, SLOT, 9))
        self.assertEqual(book.offers(), [("ann", 9198, SLOT), ("ann", 9205, SLOT)])
        self.assertEqual(book.deny("ann", 9198), [("ann", ("denied", "standup", "ann", "phone", 9))])

    def test_denied_is_one_guests_number_and_holder(self):
        book = book_of(offer(9198), offer(9198, guest="bob"), offer(9205, SLOT, 1, holder="desk"))
        book.deny("ann", 9198)
        self.assertEqual(book.offers(), [("ann", 9205, SLOT), ("bob", 9198, SLOT)])

    def test_a_hundred_changes_and_one_more(self):
        book = book_of(offer(9300), offer(9198, SLOT, 2), telling=(CLOCK, DAILY, "room", tuple(
            (9199 + step, OFF) for step in range(99))))
        book.take(offer(9301, SLOT, 3))
        book.take(offer(9302, (9302, 540, 60), 4))
        book.accept("ann", 9300)
        self.assertEqual(len(book.telling()[3]), 100)
        self.refused(book, TooMany, 100, lambda: book.accept("ann", 9301))
        self.assertEqual(book.offers(), [("ann", 9198, SLOT), ("ann", 9301, SLOT), ("ann", 9302, (9302, 540, 60))])
        self.refused(book, NoOffer, None, lambda: book.accept("ann", 9300))
        self.assertEqual(book.accept("ann", 9302), [])
        self.assertEqual(book.word("ann", 9302), "yes")
        book.change(9199, None)
        self.assertEqual(len(book.accept("ann", 9301)), 3)

    def test_no_offer(self):
        book = book_of(offer(9198), answer(9205, "yes", 2), answer(None, "no", 1, guest="bob"))
        for guest, on in (("ann", 9205), ("ann", 9208), ("ann", 9201), ("ann", 9199), ("bob", 9198), ("bob", 9205),
                          ("cid", 9198), ("zoe", 9198), ("caller", 9199)):
            self.refused(book, NoOffer, None, lambda: book.accept(guest, on))
            self.refused(book, NoOffer, None, lambda: book.deny(guest, on))

    def test_over_ahead_of_no_offer(self):
        book = book_of(offer(9198))
        book.end()
        for guest in ("ann", "bob", "zoe"):
            self.refused(book, Over, None, lambda: book.accept(guest, 9198))
            self.refused(book, Over, None, lambda: book.deny(guest, 9198))
        self.assertEqual(book.offers(), [("ann", 9198, SLOT)])


class Drawn(Hearing):

    def drawn_letter(self, chance, version, numbers):
        guest, holder = chance.choice(GUESTS), chance.choice(("desk", "phone"))
        numbers[(guest, holder)] = numbers.get((guest, holder), 0) + chance.randint(1, 2)
        number = numbers[(guest, holder)]
        version = chance.choice((version, version, max(1, version - 1), chance.randint(1, version), version + 1))
        on = chance.choice((9198, 9201, 9205))
        kind = chance.choice(("answer", "offer"))
        if kind == "answer":
            return answer(chance.choice((on, None)), chance.choice(("yes", "no", "perhaps")), number, version, guest, holder)
        return offer(on, chance.choice((SLOT, (on, 540, 60), (on, 600, 60))), number, version, guest, holder)

    def deed(self, chance, plain, written, numbers):
        """A deed's name and what is handed in."""
        on = chance.choice((9198, 9201, 9205))
        kind = chance.choice(("take",) * 10 + ("again",) * 4 + ("accept", "deny") * 2 + ("change",) * 3 + ("tell", "wish"))
        if kind == "take" or not written:
            written.append(self.drawn_letter(chance, plain.version(), numbers))
            return ("take", written[-1])
        if kind == "again":
            return ("take", chance.choice(written))
        if kind in ("accept", "deny"):
            standing = sorted(plain.standing())
            return (kind,) + (chance.choice(standing) if standing and chance.random() < 0.8 else (chance.choice(GUESTS), on))
        if kind == "change":
            return (kind, on, chance.choice((None, None, OFF, ("is", on, 600, 60, "room"), ("is",) + SLOT + ("room",))))
        if kind == "tell":
            clock, rule = chance.choice(((CLOCK, RULE), (CLOCK, LATER), (((0, 120),), LATER), (((0, 0),), RULE)))
            return (kind, clock, rule, chance.choice(("room", "room", "room", "hall")))
        return chance.choice((("take", wish(chance.choice(GUESTS + ["zoe"]))), ("calls",), ("take", wish()), ("end",)))

    def test_drawn_letters_and_deeds(self):
        chance = random.Random(23)
        seen, words, standing = set(), set(), 0
        for again in range(60):
            book, plain = book_of(), PlainBook("standup", TELLING, GUESTS)
            written, numbers = [], {}
            for step in range(chance.randint(10, 40)):
                name, *parts = self.deed(chance, plain, written, numbers)
                try:
                    sent = getattr(plain, name)(*parts)
                except Refusal as refusal:
                    with self.assertRaises(Exception) as caught:
                        getattr(book, name)(*parts)
                    self.assertEqual(type(caught.exception).__name__, refusal.args[0], (name, parts))
                    seen.add(refusal.args[0])
                else:
                    self.assertEqual(getattr(book, name)(*parts), sent)
                    self.assertTrue(all(is_letter(letter) for guest, letter in sent))
                found = state(book, (9198, 9199, 9201, 9205))
                self.assertEqual(found, plain_state(plain, (9198, 9199, 9201, 9205)))
                words |= set(found[7])
                standing += len(found[8])
        self.assertEqual(seen, {"Over", "NoVersion", "NoOffer", "NoGuest"})
        self.assertEqual(words, {None, "yes", "no", "perhaps", "other"})
        self.assertGreater(standing, 500)

    def test_any_order_of_what_is_taken_tells_the_same(self):
        chance = random.Random(24)
        for again in range(50):
            numbers = {}
            letters = [self.drawn_letter(chance, 2, numbers) for step in range(12)]
            letters = [letter for letter in letters if letter[5] < 3]
            states = []
            for order in range(3):
                book = book_of()
                book.change(9198, MOVED)
                for letter in chance.sample(letters, len(letters)) + chance.sample(letters, len(letters) // 2):
                    book.take(letter)
                states.append(state(book, DAYS))
            self.assertEqual(states[0], states[1])
            self.assertEqual(states[0], states[2])


class Many(Hearing):

    def test_many_guests_and_versions(self):
        guests = ["g" + letter for letter in "abcdefghijkl"]
        # By the 31st, so many times: its last day takes a count.
        rule = (9131, 540, 60, ("months", 1, 31), ("times", 1000))
        book = Book("standup", (CLOCK, rule, "room", ()), guests)
        for version in range(2, 200):
            book.tell(((0, 60), (1440 * 90000 + version, 0)), rule, "room")
        for number, guest in enumerate(guests, 1):
            book.take(offer(9161, SLOT, number, 1, guest))
            book.take(answer(None, "no", number, 1, guest, "desk"))
        self.assertEqual((book.version(), book.since(9161)), (199, 1))
        self.assertEqual(book.offers(), [(guest, 9161, SLOT) for guest in guests])
        self.assertEqual([book.word(guest, 9161) for guest in guests], ["other"] * 12)
        self.assertEqual(len(book.accept("ga", 9161)), 12)
        self.assertEqual([book.word(guest, 9161) for guest in guests], ["yes"] + [None] * 11)


class PlainAndTheSame(Hearing):

    def test_what_is_told_is_of_the_plain_kinds(self):
        book = Book("standup", TELLING, GUESTS)
        for letter in (answer(9198), answer(None, "no", 2), offer(9205, SLOT, 3), offer(9208, SLOT, 4), offer(9212, SLOT, 5)):
            self.assertEqual(book.take(own(letter)), [])
        self.assertTrue(plain_kinds([book.word(own("ann"), own(9198)), book.offers(), book.take(own(wish())),
                                     book.accept(own("ann"), own(9208)), book.deny(own("ann"), own(9212))]))
        self.assertEqual(book.word(own("ann"), own(9208)), "yes")
        self.assertEqual(book.word("ann", 9212), "other")
        self.assertTrue(plain_kinds(list(state(book, DAYS))))
        self.refused(book, NoGuest, "zoe", lambda: book.take(own(wish("zoe"))))
        self.refused(book, NoGuest, "zoe", lambda: book.word(own("zoe"), 9198))
        self.refused(book, NoVersion, 9, lambda: book.take(own(answer(9198, "yes", 9, 9))))

    def test_told_lists_are_the_askers_own(self):
        book = book_of(offer(9198))
        for told in (book.offers, lambda: book.take(wish())):
            first = told()
            told().clear()
            told()[0] = None
            self.assertEqual(told(), first)
        self.assertEqual(book.take(answer(9205, "yes", 4)), [])
        book.take(answer(9205, "yes", 4)).append(1)
        self.assertEqual(book.take(answer(9205, "yes", 4)), [])


if __name__ == "__main__":
    unittest.main()
