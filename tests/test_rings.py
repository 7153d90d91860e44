"""[20], [21], [22]: drifts, their certificates, turns down to a floor, and RINGs."""

import itertools
import random
import unittest

from tests import model
from viewstairs.errors import BadPaper, OutOfPlace, TooGreat
from viewstairs.rings import check_drift, drift, drift_paper, ring_stair, turns_within
from viewstairs.stairs import Stair

SOME = [Stair(*telling) for telling in model.tellings(3, -2, 2)]
SOME += [Stair(*telling) for telling in model.chance_tellings(31, 120)]


def naive_drift(stair):
    """The DRIFT, by trying each N and each t of one PERIOD."""
    times = 1
    while True:
        for moment in range(stair.period):
            there = moment
            for _ in range(times):
                there = stair(there)
            if (there - moment) % stair.period == 0:
                return there - moment, times
        times += 1


def winding(many, period):
    """A STAIR each step of which leads to the step ahead of it, and its ATs."""
    ats = [at for at, _ in model.crowd(many, period).steps]
    return Stair(period, tuple((at, ats[k - 1] - period * (k == 0)) for k, at in enumerate(ats))), ats


class Drifts(unittest.TestCase):

    def test_against_the_definition(self):
        for stair in SOME:
            self.assertEqual(drift(stair), naive_drift(stair), stair)

    def test_plain_ones(self):
        self.assertEqual(drift(Stair.shift(0)), (0, 1))
        self.assertEqual(drift(Stair.shift(-7)), (-7, 1))
        self.assertEqual(drift(Stair.shift(10 ** 999)), (10 ** 999, 1))
        self.assertEqual(drift(Stair.beat((5, 2, 0))), (0, 1))
        self.assertEqual(drift(stair=Stair.beat((5, 2, 1))), (-5, 1))
        self.assertEqual(drift(Stair(10, ((0, -3), (3, 2), (8, 7)))), (-5, 1))

    def test_the_kinds_of_the_answers(self):
        for answer in (drift(SOME[50]), drift_paper(SOME[50]), check_drift(SOME[50], drift_paper(SOME[50]))):
            self.assertIs(type(answer), tuple)
            self.assertEqual([type(part) for part in answer], [int] * len(answer))

    def test_values_stay_near_the_drift(self):
        for stair in SOME:
            gain, turns = drift(stair)
            for moment in range(-stair.period, stair.period):
                there = moment
                for times in range(1, 30):
                    there = stair(there)
                    away = turns * (there - moment) - times * gain
                    self.assertLessEqual(abs(away), turns * stair.period)

    def test_a_drift_below_0_is_below_each_moment(self):
        for stair in SOME:
            if drift(stair)[0] < 0:
                self.assertTrue(all(stair(moment) < moment for moment in range(stair.period)))

    def test_4096_steps(self):
        stair, _ = winding(4096, 20000)
        self.assertEqual(drift(stair), (-20000, 4096))
        self.assertEqual(check_drift(stair, drift_paper(stair)), (-20000, 4096))

    def test_long_ways_into_the_circle(self):
        # Each step leads to the next one, the last one to itself, so only the last one comes again.
        rows = tuple((10 * k, 10 * min(k + 1, 299)) for k in range(300))
        stair = Stair(3000, rows)
        self.assertEqual(drift(stair), (0, 1))
        moment, turns, gain = drift_paper(stair)
        self.assertEqual((moment % 3000, turns, gain), (2990, 1, 0))

    def test_a_thousand_digits(self):
        great = 10 ** 999
        stair = Stair(great, ((5, -great), (great - 4, -1)))
        self.assertEqual(drift(stair), naive_of_values(stair))
        self.assertEqual(check_drift(stair, drift_paper(stair)), drift(stair))

    def test_wrong_things(self):
        for thing in model.no_stairs():
            for deed in (drift, drift_paper):
                with self.assertRaises(OutOfPlace):
                    deed(thing)


def naive_of_values(stair):
    """The DRIFT, by trying the VALUEs alone: nothing else is led to."""
    for times in range(1, len(stair) + 1):
        for _, moment in stair.steps:
            there = moment
            for _ in range(times):
                there = stair(there)
            if (there - moment) % stair.period == 0:
                return there - moment, times
    raise AssertionError


class Papers(unittest.TestCase):

    def check_refused(self, stair, paper, part):
        with self.assertRaises(BadPaper) as caught:
            check_drift(stair, paper)
        self.assertEqual(caught.exception.part, part)

    def test_told_ones(self):
        for stair in SOME:
            paper = drift_paper(stair)
            moment, turns, gain = paper
            self.assertEqual((gain, turns), drift(stair))
            there = moment
            for _ in range(turns):
                there = stair(there)
            self.assertEqual(there, moment + gain)
            self.assertEqual(gain % stair.period, 0)
            self.assertEqual(check_drift(stair, paper), (gain, turns))
            self.assertEqual(check_drift(paper=paper, stair=stair), (gain, turns))

    def test_against_the_definition(self):
        for stair in SOME[:60]:
            wanted = drift(stair)
            for moment in range(-2, 5):
                there = moment
                for turns in range(1, 5):
                    there = stair(there)
                    for gain in range(-9, 10):
                        if there == moment + gain and gain % stair.period == 0:
                            self.assertEqual(check_drift(stair, (moment, turns, gain)), wanted)
                        else:
                            self.check_refused(stair, (moment, turns, gain), "gain")

    def test_more_turns_than_the_least_ones(self):
        for stair in SOME[:40] + SOME[-40:]:
            moment, turns, gain = drift_paper(stair)
            for times in (2, 3, 10 ** 18 // turns):
                self.assertEqual(check_drift(stair, (moment, times * turns, times * gain)), (gain, turns))
                self.check_refused(stair, (moment, times * turns, times * gain + stair.period), "gain")
                moved = moment - 10 ** 999 * stair.period
                self.assertEqual(check_drift(stair, (moved, times * turns, times * gain)), (gain, turns))

    def test_4096_steps_and_the_most_turns(self):
        stair, ats = winding(4096, 20000)
        times = 10 ** 18 // 4096
        self.assertEqual(check_drift(stair, (ats[77], 10 ** 18, -20000 * times)), (-20000, 4096))
        self.check_refused(stair, (ats[77] + 1, 10 ** 18, -20000 * times), "gain")
        self.check_refused(stair, (ats[77], 10 ** 18 - 1, -20000 * times), "gain")

    def test_a_gain_that_is_no_multiple_of_the_period(self):
        stair = Stair(15, ((0, -4), (3, 1), (9, 6)))
        self.assertEqual((stair(9), stair(3), stair(6)), (6, 1, 1))
        self.check_refused(stair, (9, 1, -3), "gain")
        self.check_refused(stair, (9, 3, -15 - 2), "gain")
        self.assertEqual(check_drift(stair, (6, 3, -15)), (-15, 3))

    def test_the_plain_period_is_asked_for(self):
        stair = Stair(10, ((0, -3), (3, 2), (8, 7)))
        self.assertEqual(check_drift(stair, (2, 1, -5)), (-5, 1))

    def test_form(self):
        stair = Stair.beat((5, 2, 1))
        for thing in model.no_integers() + [3, [2, 1, -5], (2, 1), (2, 1, -5, 0), ((2, 1, -5),)]:
            if isinstance(thing, tuple) and len(thing) == 3:
                continue
            self.check_refused(stair, thing, "form")
        for thing in model.no_integers():
            for paper in ((thing, 1, -5), (2, thing, -5), (2, 1, thing), (thing, 0, -5), (2, 0, thing)):
                self.check_refused(stair, paper, "form")

    def test_turns(self):
        stair = Stair.shift(-2)
        self.assertEqual(check_drift(stair, (0, 10 ** 18, -2 * 10 ** 18)), (-2, 1))
        for turns in (0, -1, 10 ** 18 + 1, 10 ** 999, -10 ** 999):
            self.check_refused(stair, (0, turns, -2 * turns), "turns")
            self.check_refused(stair, (0, turns, 1), "turns")

    def test_the_stair_comes_first(self):
        for thing in model.no_stairs():
            for paper in (None, (0, 0, 0), (0, 1, 3), (0, 1, 0)):
                with self.assertRaises(OutOfPlace):
                    check_drift(thing, paper)


class Turns(unittest.TestCase):

    def down(self):
        return [stair for stair in SOME if drift(stair)[0] < 0]

    def test_against_the_definition(self):
        for stair in self.down():
            for moment in range(-3, 4):
                for floor in range(moment - 25, moment + 1):
                    wanted, there = 0, stair(moment)
                    while there >= floor:
                        wanted, there = wanted + 1, stair(there)
                    self.assertEqual(turns_within(stair, moment, floor), wanted, (stair, moment, floor))

    def test_long_ways(self):
        for stair in self.down():
            moment, floor = 3 * stair.period + 1, -9 * stair.period
            wanted, there = 0, stair(moment)
            while there >= floor:
                wanted, there = wanted + 1, stair(there)
            self.assertEqual(turns_within(stair, moment, floor), wanted)

    def test_before_the_circle_and_in_it(self):
        # From 299 on each step leads up to the next one, one PERIOD lower, until the last one comes again.
        stair = Stair(300, tuple((3 * k, 3 * min(k + 1, 99) - 300) for k in range(100)))
        self.assertEqual(drift(stair), (-300, 1))
        for moment in range(0, 300, 7):
            for floor in range(moment - 40000, moment + 1, 373):
                wanted, there = 0, stair(moment)
                while there >= floor:
                    wanted, there = wanted + 1, stair(there)
                self.assertEqual(turns_within(stair, moment, floor), wanted)

    def test_a_fall_beyond_the_drift(self):
        self.assertEqual(turns_within(Stair(5, ((0, -5),)), 4, -1), 0)
        self.assertEqual(turns_within(Stair(5, ((0, -5),)), 4, -5), 1)
        self.assertEqual(turns_within(Stair(5, ((0, -5),)), 4, -9), 1)
        self.assertEqual(turns_within(Stair(5, ((0, -5),)), 4, -10), 2)

    def test_the_ends_of_the_bounds(self):
        most = 10 ** 30
        self.assertEqual(turns_within(Stair.shift(-1), most, -most), 2 * most)
        self.assertEqual(turns_within(Stair.shift(-3), most, -most), 2 * most // 3)
        self.assertEqual(turns_within(Stair.shift(-1), most, most), 0)
        self.assertEqual(turns_within(Stair.shift(-1), -most, -most), 0)
        self.assertEqual(turns_within(Stair.beat((5, 2, 1)), most, -most), 2 * most // 5)
        self.assertEqual(turns_within(stair=Stair.shift(-2), moment=most, floor=-most), most)
        self.assertEqual(turns_within(Stair.shift(-(10 ** 999)), most, -most), 0)

    def test_the_answer_is_the_greatest_one(self):
        chance = random.Random(5)
        for stair in self.down()[::3]:
            moment = chance.randint(10 ** 16, 2 * 10 ** 16)
            floor = chance.randint(-10 ** 16, 0)
            turns = turns_within(stair, moment, floor)
            self.assertGreaterEqual(stair.again(turns)(moment), floor)
            self.assertLess(stair.again(turns + 1)(moment), floor)

    def test_4096_steps(self):
        stair, ats = winding(4096, 20000)
        turns = turns_within(stair, ats[90], ats[90] - 20000 * 10 ** 24)
        self.assertEqual(turns, 4096 * 10 ** 24)
        self.assertEqual(turns_within(stair, ats[90], ats[90] - 20000 * 10 ** 24 + 1), 4096 * 10 ** 24 - 1)
        self.assertEqual(turns_within(stair, ats[90], ats[80] - 20000 * 10 ** 24), 4096 * 10 ** 24 + 10)

    def test_the_floor_equal_to_the_moment(self):
        for stair in self.down():
            for moment in (-7, 0, 5, 10 ** 30):
                self.assertEqual(turns_within(stair, moment, moment), 0)

    def test_refused(self):
        down = Stair.shift(-1)
        for thing in model.no_stairs():
            with self.assertRaises(OutOfPlace):
                turns_within(thing, 5, 0)
        for thing in model.no_integers() + [10 ** 30 + 1, -10 ** 30 - 1, 10 ** 999]:
            for moment, floor in ((thing, 0), (5, thing), (thing, thing)):
                with self.assertRaises(OutOfPlace):
                    turns_within(down, moment, floor)
        for moment, floor in ((4, 5), (-10 ** 30, -10 ** 30 + 1), (-1, 0)):
            with self.assertRaises(OutOfPlace):
                turns_within(down, moment, floor)
        for stair in SOME:
            if drift(stair)[0] >= 0:
                with self.assertRaises(OutOfPlace):
                    turns_within(stair, 5, 0)
                with self.assertRaises(OutOfPlace):
                    turns_within(stair, 5, 5)


def start_of(beat, moment):
    """The last start that is done at the MOMENT."""
    period, offset, takes = beat
    start = moment
    while start + takes > moment or (start - offset) % period != 0:
        start -= 1
    return start


def one_round(ring, moment):
    """Where the RING was one round earlier, carrier by carrier."""
    for beat, mode in ring:
        moment = start_of(beat, moment)
        if mode == "ahead":
            moment -= 1
    return moment


class Rings(unittest.TestCase):

    def check_ring(self, ring):
        stair = ring_stair(ring)
        for moment in range(-40, 41):
            self.assertEqual(stair(moment), one_round(ring, moment), (ring, moment))

    def test_one_carrier(self):
        for beat in ((1, 0, 0), (5, 2, 1), (3, 2, 9)):
            for mode in ("with", "ahead"):
                self.check_ring(((beat, mode),))
        self.assertEqual(ring_stair((((5, 2, 1), "with"),)), Stair.beat((5, 2, 1)))
        self.assertEqual(ring_stair(ring=(((5, 2, 1), "ahead"),)), Stair.beat((5, 2, 1)) - 1)

    def test_one_carrier_of_a_great_period(self):
        most = 1000000
        self.assertEqual(ring_stair((((most, most - 1, most), "with"),)), Stair.beat((most, most - 1, most)))
        self.assertEqual(ring_stair((((4097, 0, 0), "ahead"),)), Stair.beat((4097, 0, 0)) - 1)

    def test_two_carriers(self):
        beats = [(period, offset, takes) for period in (1, 2, 3) for offset in range(period) for takes in (0, 2)]
        for one, other in itertools.product(beats, beats):
            for modes in itertools.product(("with", "ahead"), repeat=2):
                self.check_ring(((one, modes[0]), (other, modes[1])))

    def test_up_to_eight_carriers(self):
        chance = random.Random(9)
        for many in (3, 4, 5, 6, 7, 8, 8, 8):
            for _ in range(6):
                ring = []
                for _ in range(many):
                    period = chance.choice((1, 2, 3, 4, 6))
                    beat = (period, chance.randrange(period), chance.randint(0, 5))
                    ring.append((beat, chance.choice(("with", "ahead"))))
                self.check_ring(tuple(ring))

    def test_the_example(self):
        stair = ring_stair((((3, 0, 0), "with"), ((5, 2, 1), "ahead")))
        self.assertEqual(stair(9), 6)
        self.assertEqual(repr(stair), "Stair(15, ((0, -4), (3, 1), (9, 6)))")
        turned = ring_stair((((5, 2, 1), "ahead"), ((3, 0, 0), "with")))
        self.assertNotEqual(turned, stair)
        self.check_ring((((5, 2, 1), "ahead"), ((3, 0, 0), "with")))

    def test_too_great(self):
        for ring in ((((1, 0, 0), "with"), ((4097, 0, 0), "with")), (((4096, 0, 0), "with"), ((4097, 0, 0), "with")),
                     (((2, 0, 0), "ahead"), ((8194, 3, 0), "ahead"), ((1, 0, 0), "with")),
                     (((64, 0, 0), "with"), ((63, 0, 0), "with"), ((4097 * 67, 0, 0), "with"))):
            with self.assertRaises(TooGreat) as caught:
                ring_stair(ring)
            self.assertEqual(caught.exception.most, 4096)

    def test_it_is_put_together_from_the_right(self):
        great, small = ((4097, 0, 0), "with"), ((1, 0, 0), "with")
        self.assertEqual(ring_stair((great, small)), Stair.beat((4097, 0, 0)))
        self.assertEqual(ring_stair((small, ((4096, 5, 0), "with"))), Stair.beat((4096, 5, 0)))
        with self.assertRaises(TooGreat):
            ring_stair((small, great))
        # From the left the first two would be refused.
        ring = (((4096, 0, 0), "with"), small, ((8192, 0, 0), "ahead"))
        self.assertEqual(ring_stair(ring), Stair.beat((8192, 0, 0)) - 1)

    def test_refused(self):
        carrier = ((5, 2, 1), "with")
        for thing in model.no_integers() + [5, (), [carrier], carrier, (carrier,) * 9, (carrier, None),
                                            (None, carrier), (carrier, list(carrier)), (carrier, carrier + (0,)),
                                            (carrier, (carrier[0],)), (([5, 2, 1], "with"),), (((5, 2), "with"),)]:
            with self.assertRaises(OutOfPlace):
                ring_stair(thing)
        self.assertIsInstance(ring_stair((carrier,) * 8), Stair)
        for mode in model.no_integers() + [1, "WITH", "With", "with ", "", "behind", "aheadwith", ("with",)]:
            if isinstance(mode, str) and mode == "with":
                continue
            with self.assertRaises(OutOfPlace):
                ring_stair((((5, 2, 1), mode),))
            with self.assertRaises(OutOfPlace):
                ring_stair((carrier, ((5, 2, 1), mode)))
        for beat in ((0, 0, 0), (5, 5, 0), (5, 0, -1), (1000001, 0, 0), (5, 0, 1000001), (True, 0, 0), (5, False, 0),
                     (5, 0, None), None, "beat", 5):
            with self.assertRaises(OutOfPlace):
                ring_stair(((beat, "with"),))
            with self.assertRaises(OutOfPlace):
                ring_stair((carrier, (beat, "ahead")))

    def test_what_is_no_ring_comes_first(self):
        great, small = ((4097, 0, 0), "with"), ((1, 0, 0), "with")
        for wrong in (None, (None, "with"), ((0, 0, 0), "with"), ((5, 0, 0), "behind"), ((5, 5, 0), "ahead")):
            with self.assertRaises(OutOfPlace):
                ring_stair((small, great, wrong))


if __name__ == "__main__":
    unittest.main()
