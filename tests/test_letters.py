"""Point [15], and the interface's part of guestcopies/letters.py."""

import unittest

from guestcopies.letters import is_letter
from things import HUGE, MANY_FIGURES, OwnText, OwnTuple, OwnWhole, anything, nested

MOST = 999999999
TELLING = (((0, 60),), (9198, 540, 60, ("weeks", 1, (0, 3)), None), "room", ((9198, ("off",)),))
IS = ("is", 9200, 600, 45, "hall")
CALL = ("call", "standup", 1, TELLING)
DAY = ("day", "standup", 2, 9201, IS)
END = ("end", "standup", 3)
DENIED = ("denied", "standup", "ann", "phone", 4)
ANSWER = ("answer", "standup", "ann", "phone", 5, 2, 9201, "yes")
OFFER = ("offer", "standup", "ann", "phone", 6, 2, 9201, (9202, 600, 45))
WISH = ("wish", "standup", "ann")
LETTERS = (CALL, DAY, END, DENIED, ANSWER, OFFER, WISH)
# Which places of which letters hold words, numbers, and days.
WORD_PLACES = ((CALL, (1,)), (DAY, (1,)), (END, (1,)), (DENIED, (1, 2, 3)), (ANSWER, (1, 2, 3)), (OFFER, (1, 2, 3)),
               (WISH, (1, 2)))
NUMBER_PLACES = ((CALL, (2,)), (DAY, (2,)), (END, (2,)), (DENIED, (4,)), (ANSWER, (4, 5)), (OFFER, (4, 5)))
DAY_PLACES = ((DAY, 3), (ANSWER, 6), (OFFER, 6))
NO_WORDS = ("", "abcdefghi", "Ann", "anN", "a b", " ann", "ann ", "ann\n", "ann1", "1", "-", "a-b", "a_b", "\u00e4", "\u0430",
            None, True, False, 5, ("ann",), ["ann"], (), [], MANY_FIGURES)
NO_NUMBERS = (0, -1, MOST + 1, HUGE, -HUGE, None, True, False, "1", "", (1,), [1], (), [])
NO_DAYS = (1, 0, -1, 99991, 99999, 100000, HUGE, -HUGE, True, False, "9201", "", "all", (9201,), [9201], ())


def with_part(letter, place, part):
    return letter[:place] + (part,) + letter[place + 1:]


class IsLetter(unittest.TestCase):

    def right(self, thing):
        self.assertIs(is_letter(thing), True, thing)

    def wrong(self, thing):
        self.assertIs(is_letter(thing), False, thing)

    def test_each_kind(self):
        for letter in LETTERS:
            self.right(letter)

    def test_words_at_their_bounds(self):
        for letter, places in WORD_PLACES:
            for place in places:
                for word in ("a", "z", "abcdefgh", "zzzzzzzz", "call", "all", "none"):
                    self.right(with_part(letter, place, word))

    def test_words_that_are_none(self):
        for letter, places in WORD_PLACES:
            for place in places:
                for word in NO_WORDS:
                    self.wrong(with_part(letter, place, word))

    def test_numbers_at_their_bounds(self):
        for letter, places in NUMBER_PLACES:
            for place in places:
                for number in (1, 2, MOST - 1, MOST):
                    self.right(with_part(letter, place, number))

    def test_numbers_that_are_none(self):
        for letter, places in NUMBER_PLACES:
            for place in places:
                for number in NO_NUMBERS:
                    self.wrong(with_part(letter, place, number))

    def test_days(self):
        for letter, place in DAY_PLACES:
            for day in (2, 3, 9199, 99989, 99990):
                self.right(with_part(letter, place, day))
            for day in NO_DAYS:
                self.wrong(with_part(letter, place, day))

    def test_none_for_all_days_in_answers_alone(self):
        self.right(with_part(ANSWER, 6, None))
        self.wrong(with_part(OFFER, 6, None))
        self.wrong(with_part(DAY, 3, None))

    def test_the_call_of_a_telling(self):
        self.right(with_part(CALL, 3, TELLING[:3] + ((),)))
        bare = TELLING[:3] + (((9198, ("is", 9198, 540, 60, "room")),),)
        for thing in (None, (), list(TELLING), TELLING[:3], TELLING + (None,), bare, TELLING[:2] + ("Room", ()), TELLING[1],
                      TELLING[:3] + (((9199, ("off",)),),), (CALL,), "telling", 5, True):
            self.wrong(with_part(CALL, 3, thing))

    def test_the_change_of_a_day(self):
        for change in (None, ("off",), IS, ("is", 2, 0, 1, "a"), ("is", 99990, 1439, 1440, "abcdefgh")):
            self.right(with_part(DAY, 4, change))
        # Whether it is a day of the rule, or bare, hangs on what was told ahead of it.
        self.right(("day", "standup", 2, 9201, ("is", 9201, 540, 60, "room")))
        for change in (True, False, 0, "off", "back", (), [], ["off"], ("back",), ("off", 1), ("is",), IS[:4], IS + (1,),
                       list(IS), with_part(IS, 0, "was"), with_part(IS, 1, 1), with_part(IS, 1, 99991),
                       with_part(IS, 2, -1), with_part(IS, 2, 1440), with_part(IS, 3, 0), with_part(IS, 3, 1441),
                       with_part(IS, 4, "Hall"), with_part(IS, 4, ""), with_part(IS, 1, True), with_part(IS, 2, False),
                       with_part(IS, 3, True), (None,), (("off",),)):
            self.wrong(with_part(DAY, 4, change))

    def test_the_word_of_an_answer(self):
        for word in ("yes", "no", "perhaps"):
            self.right(with_part(ANSWER, 7, word))
        for word in ("other", "maybe", "Yes", "YES", "y", "", " yes", "yes ", "yes\n", "ye", None, True, False, 1, ("yes",),
                     ["yes"], (), (9202, 600, 45)):
            self.wrong(with_part(ANSWER, 7, word))

    def test_the_slot_of_an_offer(self):
        for slot in ((2, 0, 1), (99990, 1439, 1440)):
            self.right(with_part(OFFER, 7, slot))
        for slot in (None, True, 5, "yes", (), [], [9202, 600, 45], (9202, 600), (9202, 600, 45, "hall"),
                     (9202, 600, 45, None), (1, 600, 45), (99991, 600, 45), (9202, -1, 45), (9202, 1440, 45),
                     (9202, 600, 0), (9202, 600, 1441), (True, 600, 45), (9202, True, 45), (9202, 600, True),
                     (None, 600, 45), (9202, None, 45), (9202, 600, None), ("9202", 600, 45), ((9202, 600, 45),),
                     (HUGE, 600, 45), (9202, -HUGE, 45), ("is", 9202, 600, 45)):
            self.wrong(with_part(OFFER, 7, slot))

    def test_a_kind_that_is_none(self):
        for kind in ("", "Call", "CALL", "calls", "cal", "back", "off", "is", "yes", "call ", "end\n", None, True, 5,
                     ("end",), ["end"], (), [], [[]], MANY_FIGURES):
            for letter in LETTERS:
                self.wrong(with_part(letter, 0, kind))

    def test_another_letters_kind(self):
        for letter in LETTERS:
            for other in LETTERS:
                if other[0] != letter[0]:
                    self.wrong(with_part(letter, 0, other[0]))

    def test_lists_in_the_place_of_tuples(self):
        for letter in LETTERS:
            self.wrong(list(letter))
            self.wrong([letter])
            self.wrong((letter,))
        self.wrong(with_part(CALL, 3, TELLING[:3] + ([],)))

    def test_one_thing_more_and_one_fewer(self):
        for letter in LETTERS:
            for more in (None, 1, "a", (), 9201, "yes"):
                self.wrong(letter + (more,))
                self.wrong((more,) + letter)
            for place in range(len(letter)):
                self.wrong(letter[:place] + letter[place + 1:])
            for many in range(len(letter)):
                self.wrong(letter[:many])

    def test_things_exchanged(self):
        for letter in (CALL, DAY, END):
            self.wrong((letter[0], letter[2], letter[1]) + letter[3:])
        self.wrong(DENIED[:3] + (DENIED[4], DENIED[3]))
        self.wrong(ANSWER[:6] + (ANSWER[7], ANSWER[6]))
        self.wrong(OFFER[:6] + (OFFER[7], OFFER[6]))

    def test_anything(self):
        for thing, same in zip(anything(), anything()):
            self.wrong(thing)
            for letter in LETTERS:
                self.wrong((letter[0], thing))
                for place in range(len(letter)):
                    # Of these some are numbers, words, minutes or no change.
                    if thing not in (None, 1, 7, 2001, "a") or isinstance(thing, bool):
                        self.wrong(with_part(letter, place, thing))
            self.assertEqual(thing, same)
        self.wrong(nested(30, END, tuple))
        self.wrong(nested(30, END, list))

    def test_own_classes_of_the_plain_kinds(self):
        def own(thing):
            if isinstance(thing, tuple):
                return OwnTuple(own(part) for part in thing)
            return None if thing is None else OwnText(thing) if isinstance(thing, str) else OwnWhole(thing)
        for letter in LETTERS:
            self.right(own(letter))

    def test_who_asks_again_is_told_the_same(self):
        for again in range(2):
            for letter in LETTERS:
                self.right(letter)
                self.wrong(letter[1:])


if __name__ == "__main__":
    unittest.main()
