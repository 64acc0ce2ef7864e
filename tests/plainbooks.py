"""A book that keeps all that ever happened, and tells of it anew just as points [21] to [24] word it."""

from plaintellings import plain_carried, plain_moment_told, plain_put, plain_told


class Refusal(Exception):
    """A refusal by its name, and its field where it has one."""


class PlainBook:

    def __init__(self, meeting, telling, guests):
        self.meeting, self.guests = meeting, list(guests)
        self.tellings = {1: telling}
        self.end_version = None
        self.lost = []
        self.taken = []
        self.accepted = {}
        self.denied = []

    def version(self):
        return max(self.tellings)

    def over(self):
        return self.end_version is not None

    def to_all(self, *letters):
        return [(guest, letter) for guest in sorted(self.guests) for letter in letters]

    def latest(self):
        last = self.version()
        if self.over():
            return [("call", self.meeting, last - 1, self.tellings[last - 1]), ("end", self.meeting, last)]
        return [("call", self.meeting, last, self.tellings[last])]

    def refuse(self, *whys):
        """Raise the first of these refusals (name, field, whether it is due) that is due."""
        for name, field, due in whys:
            if due:
                raise Refusal(name, field)

    def calls(self):
        return self.to_all(*self.latest())

    def tell(self, clock, rule, place):
        self.refuse(("Over", None, self.over()))
        telling, lived, lost = plain_carried(self.tellings[self.version()], clock, rule, place)
        if telling == self.tellings[self.version()]:
            return []
        self.tellings[self.version() + 1] = telling
        self.lost += [(self.version(), day, why) for day, why in lost]
        return self.to_all(("call", self.meeting, self.version(), telling))

    def change(self, day, change):
        self.refuse(("Over", None, self.over()))
        before = self.tellings[self.version()]
        put = plain_put(before, day, change)
        self.refuse(("NoDay", day, put == "no day"), ("TooMany", 100, put == "too many"))
        if put == before:
            return []
        self.tellings[self.version() + 1] = put
        found = [other for on, other in put[3] if on == day]
        return self.to_all(("day", self.meeting, self.version(), day, found[0] if found else None))

    def end(self):
        self.refuse(("Over", None, self.over()))
        self.tellings[self.version() + 1] = self.tellings[self.version()]
        self.end_version = self.version()
        return self.to_all(("end", self.meeting, self.version()))

    def invite(self, guest):
        self.refuse(("Over", None, self.over()), ("Twice", guest, guest in self.guests),
                    ("TooMany", 12, len(self.guests) + 1 > 12))
        self.guests.append(guest)
        return [(guest, letter) for letter in self.latest()]

    def take(self, letter):
        self.refuse(("NoLetter", None, letter[0] not in ("answer", "offer", "wish") or letter[1] != self.meeting))
        self.refuse(("NoGuest", letter[2], letter[2] not in self.guests))
        if letter[0] == "wish":
            return [(letter[2], other) for other in self.latest()]
        self.refuse(("NoVersion", letter[5], letter[5] > self.version()))
        self.taken.append(letter)
        return []

    def told(self, version, day):
        return plain_moment_told(self.tellings[version], day)

    def since(self, day):
        now = self.told(self.version(), day)
        same = [self.told(version, day) == now for version in range(1, self.version() + 1)]
        return min(version for version in range(1, self.version() + 1) if all(same[version - 1:]))

    def counting(self, guest, day):
        """The guest's letter that counts for a day, and its word, or None; accepted offers are answers."""
        best = None
        for key in (day, None):
            letters = [letter for letter in self.taken if letter[2] == guest and letter[6] == key]
            if not letters:
                continue
            last = max(letters, key=lambda letter: (letter[4], letter[3]))
            version = self.accepted.get((guest, last[4], last[3]), last[5])
            word = last[7] if last[0] == "answer" else "other"
            word = "yes" if (guest, last[4], last[3]) in self.accepted else word
            if self.told(self.version(), day) is not None and self.since(day) <= version:
                if best is None or (last[4], last[3]) > (best[0][4], best[0][3]):
                    best = (last, word)
        return best

    def word(self, guest, day):
        self.refuse(("NoGuest", guest, guest not in self.guests))
        found = self.counting(guest, day)
        return found[1] if found else None

    def standing(self):
        """The offers that stand, by guest and day."""
        found = {}
        for guest, day in {(letter[2], letter[6]) for letter in self.taken if letter[0] == "offer"}:
            counting = self.counting(guest, day)
            if counting and counting[1] == "other" and (guest, counting[0][4], counting[0][3]) not in self.denied:
                found[(guest, day)] = counting[0]
        return found

    def offers(self):
        return sorted((guest, day, letter[7]) for (guest, day), letter in self.standing().items())

    def accept(self, guest, day):
        self.refuse(("Over", None, self.over()), ("NoOffer", None, (guest, day) not in self.standing()))
        letter = self.standing()[(guest, day)]
        place = plain_told(self.tellings[self.version()], day)[3]
        sent = self.change(day, ("is",) + letter[7] + (place,))
        self.accepted[(guest, letter[4], letter[3])] = self.version()
        return sent

    def deny(self, guest, day):
        self.refuse(("Over", None, self.over()), ("NoOffer", None, (guest, day) not in self.standing()))
        letter = self.standing()[(guest, day)]
        self.denied.append((guest, letter[4], letter[3]))
        return [(guest, ("denied", self.meeting, guest, letter[3], letter[4]))]


def plain_state(plain, days):
    """What the plain book tells, of these days where it is of days."""
    versions = range(1, plain.version() + 1)
    guests = sorted(plain.guests)
    return (plain.version(), plain.tellings[plain.version()], plain.over(), guests,
            [plain.tellings[version] for version in versions], plain.lost, [plain.since(day) for day in days],
            [plain.word(guest, day) for guest in guests for day in days], plain.offers())


def state(book, days):
    """What a book tells, of these days where it is of days."""
    return (book.version(), book.telling(), book.over(), book.guests(),
            [book.at(version) for version in range(1, book.version() + 1)], book.lost(),
            [book.since(day) for day in days], [book.word(guest, day) for guest in book.guests() for day in days],
            book.offers())
