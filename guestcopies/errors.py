"""The refusals, each straight under one base."""

from guestcopies.kinds import plain_copy


class GuestError(ValueError):
    """Any refusal."""


class NoDate(GuestError):
    """A thing is the date of no day."""


class NoLetter(GuestError):
    """A thing is no letter that is taken here."""


class Over(GuestError):
    """The meeting was called off."""


class NotYet(GuestError):
    """No call has come yet."""


class NoOffer(GuestError):
    """No offer stands of this guest and day."""


class NoRow(GuestError):
    """A thing is no row that the desk knows."""


class NoSeat(GuestError):
    """A seat isn't there, or is there already."""


class NoText(GuestError):
    """A thing is no text of what is read; row is the first that is wrong."""

    def __init__(self, row):
        super().__init__(f"no such text, by row {row}")
        self.row = row


class NoDay(GuestError):
    """A day on which there is no meeting."""

    def __init__(self, day):
        super().__init__(f"no meeting on day {day}")
        self.day = day


class TooMany(GuestError):
    """More than the most that there may be."""

    def __init__(self, most):
        super().__init__(f"more than {most}")
        self.most = most


class Twice(GuestError):
    """A guest who is one already."""

    def __init__(self, name):
        super().__init__(f"a guest already: {name}")
        self.name = name


class NoGuest(GuestError):
    """One who is no guest."""

    def __init__(self, name):
        super().__init__(f"no guest: {name}")
        self.name = name


class NoVersion(GuestError):
    """A version above the book's own."""

    def __init__(self, above):
        super().__init__(f"no version yet: {above}")
        self.above = above


class NoSending(GuestError):
    """A thing that is no number of what was sent."""

    def __init__(self, sending):
        super().__init__("nothing was sent by this number")
        # It may be a list, and whoever handed it in may change it afterwards.
        self.sending = plain_copy(sending)


class NoMeeting(GuestError):
    """A meeting that has no book, or has one already."""

    def __init__(self, name):
        super().__init__(f"no such meeting, or there already: {name}")
        self.name = name
