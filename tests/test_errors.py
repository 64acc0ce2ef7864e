"""Point [2], as far as it speaks of refusals, and the interface's part of guestcopies/errors.py."""

import unittest

from guestcopies import errors
from things import HUGE, OwnList, OwnTuple, OwnWhole, anything, plain_kinds

OF_ONE_TEXT = ("NoDate", "NoLetter", "Over", "NotYet", "NoOffer", "NoRow", "NoSeat")
OF_A_FIELD = {
    "NoText": "row", "NoDay": "day", "TooMany": "most", "Twice": "name", "NoGuest": "name",
    "NoVersion": "above", "NoSending": "sending", "NoMeeting": "name",
}
ALL = OF_ONE_TEXT + tuple(OF_A_FIELD)


class Refusals(unittest.TestCase):

    def test_the_base_is_straight_under_value_error(self):
        self.assertEqual(errors.GuestError.__bases__, (ValueError,))

    def test_each_refusal_is_straight_under_the_base(self):
        for name in ALL:
            self.assertEqual(getattr(errors, name).__bases__, (errors.GuestError,), name)

    def test_no_refusal_is_under_another_one(self):
        for name in ALL:
            for other in ALL:
                under = issubclass(getattr(errors, name), getattr(errors, other))
                self.assertEqual(under, name == other, (name, other))

    def test_they_are_raised_and_caught_by_the_base_and_as_value_errors(self):
        for name in ALL:
            for base in (errors.GuestError, ValueError, getattr(errors, name)):
                with self.assertRaises(base):
                    raise getattr(errors, name)("text")

    def test_those_of_one_text_have_it_as_their_message(self):
        for name in OF_ONE_TEXT:
            self.assertEqual(str(getattr(errors, name)("why so")), "why so")
            self.assertEqual(str(getattr(errors, name)("")), "")

    def test_each_field_is_just_what_the_refusal_was_made_of(self):
        for name, field in OF_A_FIELD.items():
            for worth in (0, 1, 100, -3, 99999, HUGE, "", "anna", None):
                made = getattr(errors, name)(worth)
                self.assertEqual(getattr(made, field), worth)
                self.assertIs(type(getattr(made, field)), type(worth))
                self.assertIsInstance(str(made), str)

    def test_each_refusal_has_its_own_field_only(self):
        for name, field in OF_A_FIELD.items():
            self.assertEqual(vars(getattr(errors, name)(4)), {field: 4})

    def test_two_of_a_kind_keep_their_own_fields(self):
        first, second = errors.NoText(3), errors.NoText(8)
        self.assertEqual((first.row, second.row), (3, 8))

    def test_no_sending_is_made_of_anything(self):
        for thing, same in zip(anything(), anything()):
            made = errors.NoSending(thing)
            self.assertEqual(made.sending, same)
            self.assertIs(type(made.sending), type(same))
            self.assertEqual(thing, same)

    def test_no_sending_keeps_truths_apart_from_numbers(self):
        made = errors.NoSending([True, 1, (False, 0)])
        self.assertEqual(repr(made.sending), "[True, 1, (False, 0)]")

    def test_what_is_done_afterwards_to_a_sending_changes_nothing(self):
        inner = [1]
        thing = [inner, ("a", inner)]
        made = errors.NoSending(thing)
        inner.append(2)
        thing.append(3)
        self.assertEqual(made.sending, [[1], ("a", [1])])

    def test_a_sending_is_of_the_plain_kinds(self):
        made = errors.NoSending(OwnList([OwnWhole(3), OwnTuple([OwnWhole(4)])]))
        self.assertEqual(made.sending, [3, (4,)])
        self.assertTrue(plain_kinds(made.sending))


if __name__ == "__main__":
    unittest.main()
