"""Point [33], and the interface's part of guestcopies/post.py."""

import random
import unittest

from guestcopies.errors import GuestError, NoSending
from guestcopies.post import Post
from things import HUGE, anything, own, plain_kinds

WISH = ("wish", "standup", "ann")
END = ("end", "standup", 3)
SOME = [("caller", WISH), ("ann", END), ("bob", END)]


class Sending(unittest.TestCase):

    def refused(self, post, thing):
        before = (post.never(), post.again())
        with self.assertRaises(NoSending) as caught:
            post.bring(thing)
        self.assertIs(type(caught.exception), NoSending)
        self.assertIsInstance(caught.exception, GuestError)
        self.assertEqual(repr(caught.exception.sending), repr(thing))
        self.assertEqual((post.never(), post.again()), before)

    def test_nothing_is_put(self):
        post = Post()
        self.assertEqual((post.never(), post.again(), post.put([]), post.put([])), ([], [], [], []))
        self.assertEqual(post.put(SOME[:1]), [1])

    def test_numbers_go_on_without_a_gap(self):
        post = Post()
        self.assertEqual(post.put(SOME[:1]), [1])
        self.assertEqual(post.put(SOME), [2, 3, 4])
        self.assertEqual(post.put([]), [])
        post.bring(2)
        self.assertEqual(post.put(SOME * 100), list(range(5, 305)))
        self.assertEqual(post.put([("x", END)]), [305])
        self.assertEqual(post.bring(305), ("x", END))

    def test_brought_once_and_twice(self):
        post = Post()
        post.put(SOME)
        self.assertEqual((post.never(), post.again()), ([1, 2, 3], []))
        self.assertEqual(post.bring(3), SOME[2])
        self.assertEqual((post.never(), post.again()), ([1, 2], []))
        self.assertEqual(post.bring(3), SOME[2])
        self.assertEqual((post.never(), post.again()), ([1, 2], [3]))
        self.assertEqual(post.bring(1), SOME[0])
        self.assertEqual(post.bring(3), SOME[2])
        self.assertEqual((post.never(), post.again()), ([2], [3]))
        post.bring(1)
        self.assertEqual((post.never(), post.again()), ([2], [1, 3]))

    def test_in_any_order(self):
        chance = random.Random(33)
        post, sent, brought = Post(), [], []
        for again in range(400):
            if chance.random() < 0.3:
                some = [chance.choice(SOME) for step in range(chance.randint(0, 3))]
                self.assertEqual(post.put(some), list(range(len(sent) + 1, len(sent) + len(some) + 1)))
                sent += some
            elif sent:
                number = chance.randint(1, len(sent))
                self.assertEqual(post.bring(number), sent[number - 1])
                brought.append(number)
            numbers = range(1, len(sent) + 1)
            self.assertEqual(post.never(), [number for number in numbers if brought.count(number) == 0])
            self.assertEqual(post.again(), [number for number in numbers if brought.count(number) > 1])

    def test_no_sending(self):
        empty, post = Post(), Post()
        post.put(SOME)
        post.bring(2)
        for thing in (0, -1, 4, 5, -3, HUGE, -HUGE, True, False, None, "", "1", "2", (), (1,), [], [1], ((1,),), [[2]]):
            self.refused(post, thing)
            self.refused(empty, thing)
        self.refused(empty, 1)
        post.put(SOME[:1])
        self.assertEqual(post.bring(4), SOME[0])

    def test_things_of_any_kind(self):
        post = Post()
        post.put(SOME)
        for thing, same in zip(anything(), anything()):
            if type(thing) is not int or thing != 1:
                self.refused(post, thing)
                self.assertEqual(thing, same)

    def test_what_was_refused_is_kept_apart(self):
        thing = [1, [2]]
        with self.assertRaises(NoSending) as caught:
            Post().bring(thing)
        thing[1].append(3)
        self.assertEqual(caught.exception.sending, [1, [2]])
        caught.exception.sending.append(4)
        self.assertEqual(thing, [1, [2, 3]])

    def test_posts_are_apart(self):
        one, other = Post(), Post()
        one.put(SOME)
        self.assertEqual((other.never(), other.put(SOME[:1])), ([], [1]))

    def test_what_was_handed_in_is_copied(self):
        post = Post()
        some = list(SOME)
        post.put(some)
        some.clear()
        self.assertEqual([post.bring(number) for number in (1, 2, 3)], SOME)

    def test_what_is_told_is_of_the_plain_kinds(self):
        post = Post()
        self.assertTrue(plain_kinds(post.put(own(SOME))))
        found = [post.bring(own(1)), post.bring(2), post.bring(own(1)), post.never(), post.again()]
        self.assertTrue(plain_kinds(found))
        self.assertEqual(found, [SOME[0], SOME[1], SOME[0], [3], [1]])

    def test_told_lists_are_the_askers_own(self):
        post = Post()
        post.put(SOME).clear()
        for step in range(2):
            post.bring(1)
        post.never().clear()
        post.again().append(9)
        self.assertEqual((post.never(), post.again()), ([2, 3], [1]))

    def test_each_method_is_the_classes_own(self):
        for name in "put bring never again".split():
            self.assertIn(name, vars(Post))


if __name__ == "__main__":
    unittest.main()
