"""The caller's book of a meeting: what was told at each version, and what the guests say to it."""

from guestcopies.carrying import carried
from guestcopies.errors import NoGuest, NoLetter, NoOffer, NoVersion, Over, TooMany, Twice
from guestcopies.kinds import plain_copy
from guestcopies.letters import is_letter
from guestcopies.tellings import moment_told, quick_to_ask, told, with_change

MOST_GUESTS = 12
GUESTS_KINDS = ("answer", "offer", "wish")


def rank(reply):
    """What of two answers or offers the greater one has greater: number and holder."""
    return (reply[4], reply[3])


def offer_key(offer):
    """By what a denied offer is known: guest, number and holder."""
    return (offer[2], offer[4], offer[3])


def may_touch(letter, day):
    """Whether what is told of a day may be other behind a letter of the book."""
    return letter[0] == "call" or letter[0] == "day" and letter[3] == day


class Book:
    """A meeting as its caller has it."""

    def __init__(self, meeting, telling, guests):
        self.meeting = plain_copy(meeting)
        self.invited = sorted([plain_copy(guest) for guest in guests])
        # By versions, the first one's first: the letter that told it, and the telling then.
        self.letters = []
        self.tellings = []
        self.quick_tellings = []
        self.losses = []
        # Answers and offers by guest and day, None for all days.
        self.replies = {}
        self.refused = {}
        telling = plain_copy(telling)
        self.tell_all(("call", self.meeting, 1, telling), telling)

    def tell_all(self, letter, telling):
        """Make a new version of a letter and the telling behind it; what is to be sent."""
        self.letters.append(letter)
        self.tellings.append(telling)
        self.quick_tellings.append(quick_to_ask(telling))
        return [(guest, letter) for guest in self.invited]

    def refuse_if_over(self):
        """Refuse a deed behind the end."""
        if self.over():
            raise Over("the meeting was called off")

    def calls_to(self, guests):
        """What these guests are sent who may have heard nothing yet."""
        version = self.version() - 1 if self.over() else self.version()
        letters = [("call", self.meeting, version, self.telling())]
        if self.over():
            letters.append(self.letters[-1])
        return [(guest, letter) for guest in guests for letter in letters]

    def calls(self):
        """Call all guests to what is told now."""
        return self.calls_to(self.invited)

    def tell(self, clock, rule, place):
        """Tell the meeting anew by a clock, a rule and a place."""
        self.refuse_if_over()
        telling, lived, lost = carried(self.telling(), clock, rule, place)
        if telling == self.telling():
            return []
        version = self.version() + 1
        self.losses += [(version, day, why) for day, why in lost]
        return self.tell_all(("call", self.meeting, version, telling), telling)

    def change(self, day, change):
        """Put a day's change; None takes it back."""
        self.refuse_if_over()
        telling = with_change(self.telling(), day, change)
        if telling == self.telling():
            return []
        letter = ("day", self.meeting, self.version() + 1, int(day), dict(telling[3]).get(day))
        return self.tell_all(letter, telling)

    def end(self):
        """Call the meeting off."""
        self.refuse_if_over()
        return self.tell_all(("end", self.meeting, self.version() + 1), self.telling())

    def invite(self, guest):
        """Call one more guest."""
        self.refuse_if_over()
        guest = plain_copy(guest)
        if guest in self.invited:
            raise Twice(guest)
        if len(self.invited) >= MOST_GUESTS:
            raise TooMany(MOST_GUESTS)
        self.invited = sorted(self.invited + [guest])
        return self.calls_to([guest])

    def accept(self, guest, day):
        """Take a guest's offer of a day: the day's change, and the guest's yes to it."""
        self.refuse_if_over()
        offer = self.standing_offer(guest, day)
        place = told(self.telling(), day)[3]
        sent = self.change(day, ("is",) + offer[7] + (place,))
        # By this version the answer counts for what is told now, also for what it was itself that changed it.
        self.replies[(offer[2], offer[6])] = ("answer",) + offer[1:5] + (self.version(), offer[6], "yes")
        return sent

    def deny(self, guest, day):
        """Deny a guest's offer of a day."""
        self.refuse_if_over()
        offer = self.standing_offer(guest, day)
        self.refused[offer_key(offer)] = True
        return [(offer[2], ("denied",) + offer[1:5])]

    def take(self, letter):
        """Take an answer, an offer or a wish of a guest; what is to be sent then."""
        if not is_letter(letter) or letter[0] not in GUESTS_KINDS or letter[1] != self.meeting:
            raise NoLetter("no answer, offer or wish to this meeting")
        letter = plain_copy(letter)
        if letter[2] not in self.invited:
            raise NoGuest(letter[2])
        if letter[0] == "wish":
            return self.calls_to([letter[2]])
        if letter[5] > self.version():
            raise NoVersion(letter[5])
        key = (letter[2], letter[6])
        if key not in self.replies or rank(letter) > rank(self.replies[key]):
            self.replies[key] = letter
        return []

    def version(self):
        """The version of what is told now."""
        return len(self.letters)

    def telling(self):
        """What is told now."""
        return self.tellings[-1]

    def over(self):
        """Whether the meeting is called off."""
        return self.letters[-1][0] == "end"

    def guests(self):
        """The guests, sorted."""
        return list(self.invited)

    def at(self, version):
        """The telling of a version; None of one that the book hasn't."""
        return self.tellings[version - 1] if 1 <= version <= self.version() else None

    def lost(self):
        """The changes that were lost, as tuples (version, old day, why)."""
        return list(self.losses)

    def since(self, day):
        """The least version from which on what is told of a day has been what it is."""
        now = moment_told(self.quick_tellings[-1], day)
        version = self.version()
        while version > 1:
            ahead = self.quick_tellings[version - 2]
            if may_touch(self.letters[version - 1], day) and moment_told(ahead, day) != now:
                break
            version -= 1
        return version

    def reply_that_counts(self, guest, day):
        """The guest's answer or offer that counts for a day, the greatest of them; None of none."""
        if told(self.quick_tellings[-1], day) is None:
            return None
        since = self.since(day)
        replies = [self.replies[key] for key in ((guest, day), (guest, None)) if key in self.replies]
        counting = [reply for reply in replies if reply[5] >= since]
        return max(counting, key=rank) if counting else None

    def word(self, guest, day):
        """The guest's word of a day: that of an answer, other of an offer, None of none."""
        if guest not in self.invited:
            raise NoGuest(plain_copy(guest))
        reply = self.reply_that_counts(guest, day)
        if reply is None:
            return None
        return reply[7] if reply[0] == "answer" else "other"

    def stands(self, reply):
        """Whether this is an offer, its guest's word of its day, and not denied."""
        if reply[0] != "offer" or offer_key(reply) in self.refused:
            return False
        return self.reply_that_counts(reply[2], reply[6]) == reply

    def standing_offer(self, guest, day):
        """The offer of a guest and a day; NoOffer where none stands."""
        reply = self.replies.get((guest, day))
        if reply is None or not self.stands(reply):
            raise NoOffer("no offer of this guest and day stands")
        return reply

    def offers(self):
        """The offers that stand, as sorted tuples (guest, day, slot)."""
        return sorted([(reply[2], reply[6], reply[7]) for reply in self.replies.values() if self.stands(reply)])
