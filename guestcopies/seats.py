"""A guest's seat: one thing that the guest holds, with its copy of a meeting and what is written on it."""

from guestcopies.copies import Copy
from guestcopies.errors import NoDay, NoLetter, NotYet, Over
from guestcopies.kinds import plain_copy
from guestcopies.letters import is_letter
from guestcopies.tellings import told

NUMBERED_KINDS = ("denied", "answer", "offer")


class Seat:
    """A thing that a guest holds, for one meeting."""

    def __init__(self, meeting, guest, holder):
        self.meeting = plain_copy(meeting)
        self.guest = plain_copy(guest)
        self.holder = plain_copy(holder)
        self.heard = Copy(meeting)
        self.greatest = 0
        # Offers that aren't taken, by number and holder.
        self.refused = {}

    def take(self, letter):
        """Take a letter to the guest, or one that the guest wrote; whether anything that is told is other behind it."""
        if is_letter(letter) and letter[0] in NUMBERED_KINDS and letter[1:3] == (self.meeting, self.guest):
            return self.take_numbered(plain_copy(letter))
        return self.heard.take(letter)

    def take_numbered(self, letter):
        """Take an answer, an offer or a denied letter of the guest; whether anything is other behind it."""
        holder, number = letter[3], letter[4]
        other = number > self.greatest
        self.greatest = max(self.greatest, number)
        if letter[0] == "denied" and (number, holder) not in self.refused:
            self.refused[(number, holder)] = True
            other = True
        return other

    def version(self):
        """The copy's version."""
        return self.heard.version()

    def newest(self):
        """The copy's newest version."""
        return self.heard.newest()

    def number(self):
        """The greatest number of all that the guest wrote, as far as it is known here."""
        return self.greatest

    def telling(self):
        """The copy's telling, or None."""
        return self.heard.telling()

    def over(self):
        """Whether the meeting is called off, by the copy."""
        return self.heard.over()

    def kept(self):
        """The letters that the copy keeps."""
        return self.heard.kept()

    def lacking(self):
        """The versions that the copy lacks, as stretches (first, last)."""
        return self.heard.lacking()

    def denied(self):
        """The denied offers, as sorted tuples (number, holder)."""
        return sorted(self.refused)

    def write(self, kind, day, worth):
        """A new answer or offer for a day, None for all days."""
        if self.version() == 0:
            raise NotYet("no call has come yet")
        if self.over():
            raise Over("the meeting was called off")
        if day is not None and told(self.telling(), day) is None:
            raise NoDay(int(day))
        self.greatest += 1
        head = (kind, self.meeting, self.guest, self.holder, self.greatest, self.version())
        return head + (plain_copy(day), plain_copy(worth))

    def answer(self, day, word):
        """A new answer for a day, or for all days (None)."""
        return self.write("answer", day, word)

    def offer(self, day, slot):
        """A new offer of another slot for a day."""
        return self.write("offer", day, slot)

    def wish(self):
        """A letter to be told anew."""
        return ("wish", self.meeting, self.guest)

    def joined(self, other):
        """A new seat of this holder, which knows what both know."""
        if self.guest != other.guest:
            raise NoLetter("a seat of another guest")
        both = Seat(self.meeting, self.guest, self.holder)
        both.heard = self.heard.joined(other.heard)
        both.greatest = max(self.greatest, other.greatest)
        both.refused = {key: True for key in sorted(self.refused) + sorted(other.refused)}
        return both
