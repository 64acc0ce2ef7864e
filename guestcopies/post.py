"""The post: what is sent to whom, and how often it was brought."""

from guestcopies.errors import NoSending
from guestcopies.kinds import is_between, plain_copy


class Post:
    """Letters on their way, by numbers from 1 on."""

    def __init__(self):
        self.sendings = []
        self.times = []

    def put(self, some):
        """Put in tuples (to, letter); their numbers."""
        first = len(self.sendings) + 1
        self.sendings += [plain_copy(sending) for sending in some]
        self.times += [0 for sending in some]
        return list(range(first, len(self.sendings) + 1))

    def look_at(self, number):
        """The (to, letter) of a number, which isn't brought by this."""
        if not is_between(number, 1, len(self.sendings)):
            raise NoSending(number)
        return self.sendings[number - 1]

    def bring(self, number):
        """Bring the (to, letter) of a number."""
        sending = self.look_at(number)
        self.times[number - 1] += 1
        return sending

    def never(self):
        """The numbers never brought."""
        return [number for number, many in enumerate(self.times, 1) if many == 0]

    def again(self):
        """The numbers brought twice and more."""
        return [number for number, many in enumerate(self.times, 1) if many > 1]
