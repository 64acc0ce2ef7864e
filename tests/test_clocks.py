"""Points [6] and [7], and the interface's part of guestcopies/clocks.py."""

import random
import unittest

from guestcopies.clocks import how_often, is_clock, local, moment_of
from things import HUGE, OwnTuple, OwnWhole, anything, nested, plain_kinds

LAST_MOMENT = 143999999
FIRST_TIME, LAST_TIME = 2880, 143997119


def clock_of(many, apart=1000, offset=0):
    """A clock of so many turns."""
    return tuple((apart * place, offset) for place in range(many))


def slow_local(clock, moment):
    """Local time just as the point words it."""
    return moment + [offset for begin, offset in clock if begin <= moment][-1]


def slow_answers(clock, low, high):
    """For each local time that lies within: how often it comes and its moment, minute by minute."""
    locals_by_moment = [(moment, slow_local(clock, moment)) for moment in range(low, high)]
    comings = {}
    for moment, time in locals_by_moment:
        comings.setdefault(time, []).append(moment)
    answers = {}
    for time in range(low + 1700, high - 1700):
        found = comings.get(time, [])
        if found:
            answers[time] = (len(found), found[0])
            continue
        for (unused, ahead), (moment, now) in zip(locals_by_moment, locals_by_moment[1:]):
            if ahead < time < now:
                answers[time] = (0, moment)
                break
    return answers


class IsClock(unittest.TestCase):

    def test_clocks(self):
        clocks = (
            ((0, 0),), ((0, 840),), ((0, -840),), ((0, 60), (1, -60)), ((0, 60), (5000, 120), (9000, 60)),
            ((0, 0), (LAST_MOMENT, 840)), ((0, 5), (LAST_MOMENT - 1, -840), (LAST_MOMENT, 840)),
            ((0, 7), (10, 7)), clock_of(2), clock_of(39), clock_of(40), clock_of(40, 1, -840),
        )
        for clock in clocks:
            self.assertIs(is_clock(clock), True, clock)

    def test_no_turn_and_too_many(self):
        for thing in ((), clock_of(41), clock_of(42), clock_of(400)):
            self.assertIs(is_clock(thing), False)

    def test_a_first_moment_that_is_not_0(self):
        for thing in (((1, 0),), ((-1, 0),), ((1440, 60), (5000, 0)), ((-5, 0), (0, 0))):
            self.assertIs(is_clock(thing), False)

    def test_moments_that_do_not_rise(self):
        for thing in (((0, 0), (0, 60)), ((0, 0), (5, 1), (5, 2)), ((0, 0), (9, 1), (8, 2)), ((0, 0), (9, 1), (0, 2)),
                      ((0, 0), (5, 0), (9, 0), (7, 0), (11, 0))):
            self.assertIs(is_clock(thing), False)

    def test_moments_and_offsets_beyond_their_bounds(self):
        for thing in (((0, 841),), ((0, -841),), ((0, HUGE),), ((0, -HUGE),), ((0, 0), (LAST_MOMENT + 1, 0)),
                      ((0, 0), (HUGE, 0)), ((0, 0), (5, 841)), ((0, 0), (5, -841)), ((0, 0), (-1, 0)),
                      ((0, 0), (-HUGE, 0))):
            self.assertIs(is_clock(thing), False)

    def test_truths_and_other_kinds_in_the_place_of_numbers(self):
        for thing in (((False, 0),), ((0, False),), ((0, True),), ((0, 0), (True, 0)), ((0, 0), (5, True))):
            self.assertIs(is_clock(thing), False)
        for wrong in (None, "", "0", (), (0,), [], [0]):
            self.assertIs(is_clock(((wrong, 0),)), False)
            self.assertIs(is_clock(((0, wrong),)), False)
            self.assertIs(is_clock(((0, 0), (wrong, 0))), False)
            self.assertIs(is_clock(((0, 0), wrong)), False)

    def test_lists_in_the_place_of_tuples(self):
        for thing in ([(0, 0)], ([0, 0],), [[0, 0]], ((0, 0), [5, 0]), [(0, 0), (5, 0)]):
            self.assertIs(is_clock(thing), False)

    def test_too_many_and_too_few_numbers(self):
        for thing in (((),), ((0,),), ((0, 0, 0),), ((0, 0), (5,)), ((0, 0), (5, 0, 0)), (0, 0), ((0, 0), ())):
            self.assertIs(is_clock(thing), False)

    def test_anything(self):
        for thing, same in zip(anything(), anything()):
            self.assertIs(is_clock(thing), False)
            self.assertEqual(thing, same)
        self.assertIs(is_clock(nested(30, ((0, 0),), list)), False)

    def test_own_classes_of_the_plain_kinds(self):
        self.assertIs(is_clock(OwnTuple([OwnTuple([OwnWhole(0), OwnWhole(5)])])), True)


class Local(unittest.TestCase):

    def test_one_turn(self):
        for offset in (-840, -60, 0, 60, 840):
            for moment in (1440, 70000, 143998559):
                self.assertEqual(local(((0, offset),), moment), moment + offset)

    def test_at_a_turn_and_the_minute_ahead_of_it(self):
        clock = ((0, 60), (5000, 120), (9000, -840), (9001, 840))
        told = [local(clock, moment) for moment in (4999, 5000, 5001, 8999, 9000, 9001, 9002)]
        self.assertEqual(told, [5059, 5120, 5121, 9119, 8160, 9841, 9842])

    def test_forty_turns(self):
        clock = tuple((1500 * place, 21 * place) for place in range(40))
        for place in range(2, 40):
            self.assertEqual(local(clock, 1500 * place), 1500 * place + 21 * place)
            self.assertEqual(local(clock, 1500 * place - 1), 1500 * place - 1 + 21 * (place - 1))

    def test_turns_at_the_ends_of_time(self):
        clock = ((0, 1), (1440, 2), (143998559, 3), (LAST_MOMENT, 4))
        told = [local(clock, moment) for moment in (1440, 143998558, 143998559)]
        self.assertEqual(told, [1442, 143998560, 143998562])

    def test_moments_and_clocks_somewhat_beyond_raise_no_error(self):
        self.assertEqual(local(((0, 5), (9, 7)), -1), 4)
        self.assertEqual(local(clock_of(41, 1000, 3), 45000), 45003)


class HowOftenAndMoment(unittest.TestCase):

    def asked(self, clock, time):
        return (how_often(clock, time), moment_of(clock, time))

    def test_a_time_that_comes_once(self):
        for offset in (-840, 0, 60, 840):
            self.assertEqual(self.asked(((0, offset),), 5000), (1, 5000 - offset))

    def test_put_forward(self):
        clock = ((0, 60), (5000, 120))
        self.assertEqual(self.asked(clock, 5059), (1, 4999))
        self.assertEqual(self.asked(clock, 5060), (0, 5000))
        self.assertEqual(self.asked(clock, 5119), (0, 5000))
        self.assertEqual(self.asked(clock, 5120), (1, 5000))

    def test_put_back(self):
        clock = ((0, 120), (5000, 60))
        self.assertEqual(self.asked(clock, 5059), (1, 4939))
        self.assertEqual(self.asked(clock, 5060), (2, 4940))
        self.assertEqual(self.asked(clock, 5119), (2, 4999))
        self.assertEqual(self.asked(clock, 5120), (1, 5060))

    def test_put_back_twice(self):
        clock = ((0, 120), (5000, 60), (5030, 0))
        self.assertEqual(self.asked(clock, 5065), (3, 4945))

    def test_leapt_over_and_then_met_when_put_back(self):
        clock = ((0, 0), (5000, 100), (5010, 0))
        self.assertEqual(self.asked(clock, 5005), (0, 5000))
        self.assertEqual(self.asked(clock, 5050), (1, 5050))
        self.assertEqual(self.asked(clock, 5105), (2, 5005))

    def test_leapt_over_more_than_once(self):
        clock = ((0, 0), (5000, 100), (5010, -20), (5020, 100))
        self.assertEqual(self.asked(clock, 5005), (0, 5000))
        self.assertEqual(self.asked(clock, 4995), (2, 4995))

    def test_leapt_over_by_several_turns(self):
        clock = ((0, 0), (5000, 10), (5001, 20), (5002, 30))
        self.assertEqual(self.asked(clock, 5005), (0, 5000))
        self.assertEqual(self.asked(clock, 5010), (1, 5000))
        self.assertEqual(self.asked(clock, 5011), (0, 5001))
        self.assertEqual(self.asked(clock, 5021), (1, 5001))
        self.assertEqual(self.asked(clock, 5022), (0, 5002))

    def test_turns_a_minute_apart_forward_and_back(self):
        clock = ((0, 0), (5000, 60), (5001, 0), (5002, 60), (5003, 0))
        self.assertEqual(self.asked(clock, 5000), (0, 5000))
        self.assertEqual(self.asked(clock, 5001), (1, 5001))
        self.assertEqual(self.asked(clock, 5002), (0, 5000))
        self.assertEqual(self.asked(clock, 5060), (2, 5000))
        self.assertEqual(self.asked(clock, 5061), (1, 5061))

    def test_local_time_that_stands_still(self):
        clock = ((0, 9),) + tuple((5000 + step, 9 - step - 1) for step in range(10))
        self.assertEqual(self.asked(clock, 5008), (11, 4999))

    def test_a_turn_that_changes_nothing(self):
        clock = ((0, 60), (5000, 60))
        self.assertEqual([self.asked(clock, time) for time in (5059, 5060)], [(1, 4999), (1, 5000)])

    def test_the_outermost_times(self):
        for offset in (-840, 0, 840):
            for time in (FIRST_TIME, LAST_TIME):
                self.assertEqual(self.asked(((0, offset),), time), (1, time - offset))
        self.assertEqual(self.asked(((0, 840), (2040, -840)), FIRST_TIME - 1), (2, 2039))
        self.assertEqual(self.asked(((0, 840), (2040, -840)), FIRST_TIME), (1, 3720))
        self.assertEqual(self.asked(((0, -840), (2040, 840)), FIRST_TIME), (1, 2040))
        self.assertEqual(self.asked(((0, -840), (2041, 840)), FIRST_TIME), (0, 2041))
        self.assertEqual(self.asked(((0, 840), (143997959, -840)), LAST_TIME), (2, 143996279))
        self.assertEqual(self.asked(((0, -840), (143997959, 840)), LAST_TIME), (0, 143997959))
        self.assertEqual(self.asked(((0, -840), (143997960, 840)), LAST_TIME), (1, 143997959))
        self.assertEqual(self.asked(((0, 0), (LAST_MOMENT, 840)), LAST_TIME), (1, LAST_TIME))

    def test_times_somewhat_beyond_raise_no_error(self):
        for time in (-5, 0, 839, LAST_TIME + 1, LAST_MOMENT, LAST_MOMENT + 5000):
            for clock in (((0, 840),), ((0, -840), (LAST_MOMENT, 840)), clock_of(41)):
                self.assertIs(type(how_often(clock, time)), int)
                self.assertIs(type(moment_of(clock, time)), int)


class ByTheMinute(unittest.TestCase):
    """Clocks of many kinds, beside an answer that goes through all minutes."""

    def compared(self, clock, low, high):
        self.assertTrue(is_clock(clock))
        for time, told in slow_answers(clock, low, high).items():
            if FIRST_TIME <= time <= LAST_TIME:
                self.assertEqual((how_often(clock, time), moment_of(clock, time)), told, (clock, time))

    def drawn_clock(self, chance, begin, most_apart, most_offset):
        moment, turns = begin, [(0, chance.randint(-most_offset, most_offset))]
        for step in range(chance.randint(1, 12)):
            turns.append((moment, chance.randint(-most_offset, most_offset)))
            moment += chance.randint(1, most_apart)
        return tuple(turns)

    def test_turns_close_to_one_another(self):
        chance = random.Random(20261118)
        for most_apart, most_offset in ((1, 5), (2, 20), (10, 10), (40, 60), (100, 840)):
            for again in range(4):
                self.compared(self.drawn_clock(chance, 4500, most_apart, most_offset), 1000, 8500)

    def test_at_the_ends_of_time(self):
        chance = random.Random(7)
        self.compared(self.drawn_clock(chance, 1000, 300, 840), 0, 6500)
        self.compared(self.drawn_clock(chance, 143995000, 300, 840), 143993000, LAST_MOMENT + 1)


class PlainAndTheSame(unittest.TestCase):

    def test_what_is_told_is_of_the_plain_kinds(self):
        clock = OwnTuple([(OwnWhole(0), OwnWhole(0)), OwnTuple([OwnWhole(5000), OwnWhole(60)])])
        told = [local(clock, OwnWhole(5000)), how_often(clock, OwnWhole(5010)), moment_of(clock, OwnWhole(5010)),
                moment_of(clock, OwnWhole(4000)), local(((0, 0),), OwnWhole(1440))]
        self.assertEqual(told, [5060, 0, 5000, 4000, 1440])
        self.assertTrue(plain_kinds(told))

    def test_who_asks_again_is_told_the_same(self):
        clock = ((0, 120), (5000, 60))
        for ask in (local, how_often, moment_of):
            self.assertEqual(ask(clock, 5070), ask(clock, 5070))
        self.assertEqual(clock, ((0, 120), (5000, 60)))


if __name__ == "__main__":
    unittest.main()
