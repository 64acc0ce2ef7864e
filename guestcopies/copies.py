"""A guest's copy of a meeting, by the caller's letters that have come."""

from guestcopies.errors import NoDay, NoLetter, TooMany
from guestcopies.kinds import plain_copy
from guestcopies.letters import is_letter
from guestcopies.tellings import with_change

CALLERS_KINDS = ("call", "day", "end")


def with_change_if_it_can_be(telling, day, change):
    """The telling with this change of the day, or as it is where that is refused."""
    try:
        return with_change(telling, day, change)
    except (NoDay, TooMany):
        return telling


class Copy:
    """What is known of a meeting by the letters that have come, in whatever order."""

    def __init__(self, meeting):
        self.meeting = plain_copy(meeting)
        self.call = None
        # Day and end letters by their versions, all above the call's.
        self.behind = {}
        # What is told is reckoned on by each letter: it needn't be put together anew whenever it is asked.
        self.reached = 0
        self.now = None
        self.ended = False

    def take(self, letter):
        """Take a letter of the caller; whether what is kept is other behind it."""
        if not is_letter(letter) or letter[0] not in CALLERS_KINDS or letter[1] != self.meeting:
            raise NoLetter("no call, day or end letter of this meeting")
        letter = plain_copy(letter)
        version = letter[2]
        if self.call is not None and version <= self.call[2]:
            return False
        if letter[0] == "call":
            self.begin_anew(letter)
        elif version in self.behind:
            return False
        else:
            self.behind[version] = letter
        self.go_on()
        return True

    def begin_anew(self, call):
        """Tell what a call of a greater version tells, and forget what is not above it."""
        self.call = call
        self.behind = {version: self.behind[version] for version in self.behind if version > call[2]}
        self.reached = call[2]
        self.now = call[3]
        self.ended = False

    def go_on(self):
        """Reckon with the letters of the next versions, as far as they are there."""
        while self.call is not None and self.reached + 1 in self.behind:
            self.reached += 1
            letter = self.behind[self.reached]
            if letter[0] == "end":
                self.ended = True
            else:
                self.now = with_change_if_it_can_be(self.now, letter[3], letter[4])

    def kept(self):
        """The letters that are kept, by their versions."""
        calls = [] if self.call is None else [self.call]
        return calls + [self.behind[version] for version in sorted(self.behind)]

    def version(self):
        """The greatest version to which all is there; 0 without a call."""
        return self.reached

    def newest(self):
        """The greatest version of all letters that are kept; 0 of none."""
        return max([self.reached] + list(self.behind))

    def telling(self):
        """The telling of the copy's version; None without a call."""
        return self.now

    def over(self):
        """Whether the meeting is called off, by the copy's version."""
        return self.ended

    def lacking(self):
        """The versions that are lacking between the copy's own and the newest, as stretches (first, last)."""
        found = []
        ahead = self.reached
        for version in sorted(self.behind):
            if version > ahead + 1:
                found.append((ahead + 1, version - 1))
            ahead = max(ahead, version)
        return found

    def joined(self, other):
        """A new copy, which has taken what both keep."""
        if self.meeting != other.meeting:
            raise NoLetter("a copy of another meeting")
        both = Copy(self.meeting)
        for letter in self.kept() + other.kept():
            both.take(letter)
        return both
