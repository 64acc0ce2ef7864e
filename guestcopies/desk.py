"""The desk: books, seats and a post, told by rows of words."""

from guestcopies.books import GUESTS_KINDS, Book
from guestcopies.daytexts import show_day
from guestcopies.deskrows import read_desk_row
from guestcopies.errors import NoMeeting, NoSeat, NoText
from guestcopies.post import Post
from guestcopies.seats import Seat
from guestcopies.tellingtexts import ROWS_AHEAD, read_telling, show_slot, show_telling

CALLER = "caller"
SEAT_ROWS = ("seat", "answer", "offer", "wish", "see", "versions")
SHOWING_ROWS = ("show", "words", "offers", "lost")


def read_bare_telling(text):
    """The telling without changes whose text this is."""
    telling = read_telling(text)
    if telling[3]:
        raise NoText(ROWS_AHEAD)
    return telling


def show_numbers(numbers):
    """Numbers with blanks between."""
    return " ".join([f"{number}" for number in numbers])


def show_words(book, day):
    """Each guest's word of a day."""
    rows = []
    for guest in book.guests():
        word = book.word(guest, day)
        rows.append(f"{guest} -" if word is None else f"{guest} {word}")
    return "; ".join(rows)


def show_of_book(book, kind, parts):
    """What a row asks of a book."""
    if kind == "words":
        return show_words(book, parts[0])
    if kind == "offers":
        return "; ".join([f"{guest} {show_day(day)} {show_slot(slot)}" for guest, day, slot in book.offers()])
    if kind == "lost":
        return "; ".join([f"{version} {show_day(day)} {why}" for version, day, why in book.lost()])
    return show_telling(book.telling())


def show_versions(seat):
    """A seat's version, its newest, and the stretches that it lacks."""
    stretches = [f"{first}-{last}" for first, last in seat.lacking()]
    return " ".join([f"{seat.version()}", f"{seat.newest()}"] + stretches)


def done(book, kind, parts):
    """What the deed of a row sends."""
    if kind == "change":
        return book.change(parts[0], parts[1])
    if kind == "end":
        return book.end()
    if kind == "invite":
        return book.invite(parts[0])
    if kind == "accept":
        return book.accept(parts[0], parts[1])
    if kind == "deny":
        return book.deny(parts[0], parts[1])
    return book.calls()


def written(seat, kind, parts):
    """The letter that a seat writes by a row."""
    if kind == "answer":
        return seat.answer(parts[0], parts[1])
    if kind == "offer":
        return seat.offer(parts[0], parts[1:])
    return seat.wish()


class Desk:
    """Books by their meetings, seats by meeting, guest and holder, and a post."""

    def __init__(self):
        self.books = {}
        self.seats = {}
        self.post = Post()

    def say(self, row):
        """Do what a row tells; the answer."""
        kind, parts, text = read_desk_row(row)
        if kind == "waiting":
            return show_numbers(self.post.never())
        if kind == "bring":
            return self.bring_sending(parts[0])
        if kind in SEAT_ROWS:
            return self.say_to_seat(kind, parts[:3], parts[3:])
        return self.say_to_book(kind, parts[0], parts[1:], text)

    def send(self, some):
        """Put into the post what is to be sent; the numbers."""
        return show_numbers(self.post.put(some))

    def say_to_book(self, kind, meeting, parts, text):
        """Do what a row of a book tells; the answer."""
        if (meeting in self.books) == (kind == "book"):
            raise NoMeeting(meeting)
        if kind == "book":
            book = Book(meeting, read_telling(text), list(parts))
            self.books[meeting] = book
            return self.send(book.calls())
        book = self.books[meeting]
        if kind in SHOWING_ROWS:
            return show_of_book(book, kind, parts)
        if kind == "tell":
            clock, rule, place, changes = read_bare_telling(text)
            return self.send(book.tell(clock, rule, place))
        return self.send(done(book, kind, parts))

    def say_to_seat(self, kind, key, parts):
        """Do what a row of a seat tells; the answer."""
        if (key in self.seats) == (kind == "seat"):
            raise NoSeat("no such seat, or there already")
        if kind == "seat":
            meeting, guest, holder = key
            self.seats[key] = Seat(meeting, guest, holder)
            return "ok"
        seat = self.seats[key]
        if kind == "see":
            return "none" if seat.telling() is None else show_telling(seat.telling())
        if kind == "versions":
            return show_versions(seat)
        return self.send([(CALLER, written(seat, kind, parts))])

    def bring_sending(self, number):
        """Bring what has this number in the post to whom it is sent; the numbers of what is sent then."""
        to, letter = self.post.look_at(number)
        # A guest may have the caller's name, but no letter of a guest's kind goes to a guest.
        if letter[0] in GUESTS_KINDS:
            sent = self.bring_to_caller(letter)
        else:
            sent = self.bring_to_seats(to, letter)
        # Only now: what is refused isn't brought.
        self.post.bring(number)
        return self.send(sent)

    def bring_to_caller(self, letter):
        """Have the book of its meeting take a letter; what is to be sent then."""
        meeting = letter[1]
        if meeting not in self.books:
            raise NoMeeting(meeting)
        return self.books[meeting].take(letter)

    def bring_to_seats(self, guest, letter):
        """Have all seats of its meeting and the guest take a letter; nothing is to be sent then."""
        for key, seat in self.seats.items():
            if key[:2] == (letter[1], guest):
                seat.take(letter)
        return []
