"""[10], [11], [12]: what a STAIR is, how it is told, what tells none, and the PLAIN form."""

import unittest

from tests import model
from viewstairs.errors import BadStair
from viewstairs.stairs import Stair


class Values(unittest.TestCase):

    def check_values(self, period, steps):
        stair, value = Stair(period, steps), model.told(period, steps)
        for moment in range(-3 * period, 3 * period + 1):
            self.assertEqual(stair(moment), value(moment), (period, steps, moment))

    def test_all_small_ones(self):
        for period, steps in model.tellings():
            self.check_values(period, steps)

    def test_greater_ones(self):
        for period, steps in model.chance_tellings(11, 400):
            self.check_values(period, steps)

    def test_a_stair_never_falls_and_goes_on_by_its_period(self):
        for period, steps in model.chance_tellings(12, 200):
            stair = Stair(period, steps)
            for moment in range(-2 * period, 2 * period):
                self.assertLessEqual(stair(moment - 1), stair(moment))
                self.assertEqual(stair(moment + period), stair(moment) + period)
                self.assertEqual(stair(moment + stair.period), stair(moment) + stair.period)

    def test_the_example(self):
        stair = Stair(5, ((3, 2),))
        self.assertEqual([stair(t) for t in (2, 3, 7, 8)], [-3, 2, 2, 7])
        self.assertEqual([stair(t) for t in (-3, -2, -1, 0)], [-8, -3, -3, -3])

    def test_values_are_integers(self):
        self.assertIs(type(Stair(5, ((3, 2),))(4)), int)

    def test_a_thousand_digits(self):
        great = 10 ** 999 + 7
        stair = Stair(great, ((0, -great), (great - 2, -3), (great - 1, 0)))
        self.assertEqual(stair(0), -great)
        self.assertEqual(stair(great - 3), -great)
        self.assertEqual(stair(great - 2), -3)
        self.assertEqual(stair(-1), -great)
        self.assertEqual(stair(-2), -great - 3)
        self.assertEqual(stair(-great), -2 * great)
        self.assertEqual(stair(9 * great - 1), 8 * great)
        self.assertEqual((stair.period, stair.steps), (great, ((great - 2, -3), (great - 1, 0))))


class Refused(unittest.TestCase):

    def check_place(self, period, steps, place):
        with self.assertRaises(BadStair) as caught:
            Stair(period, steps)
        self.assertEqual(caught.exception.place, place)
        self.assertIs(type(caught.exception.place), tuple)

    def test_period(self):
        for period in [0, -1, -10 ** 999] + model.no_integers():
            self.check_place(period, ((0, 0),), ("period",))

    def test_steps(self):
        for steps in model.no_integers() + [3, [(0, 0)], {(0, 0)}, iter(((0, 0),)), ()]:
            if not isinstance(steps, tuple) or steps == ():
                self.check_place(5, steps, ("steps",))

    def test_how_many_steps(self):
        rows = tuple((at, at) for at in range(4097))
        self.assertEqual(Stair(5000, rows[:1]).steps, ((0, 0),))
        self.assertEqual(len(Stair(5000, rows[:4096])), 4096)
        self.check_place(5000, rows, ("steps",))
        self.check_place(4097, rows, ("steps",))
        self.check_place(1, (None,) * 4097, ("steps",))
        self.check_place(1, (None,) * 4096, ("step", 0))

    def test_a_step_that_is_no_pair_of_integers(self):
        for step in model.no_integers() + [3, [1, 2], (1,), (1, 2, 3), ()]:
            if not isinstance(step, tuple) or len(step) != 2:
                self.check_place(9, (step,), ("step", 0))
                self.check_place(9, ((0, 0), step, (5, 5)), ("step", 1))
        for thing in model.no_integers():
            self.check_place(9, ((0, 0), (thing, 2)), ("step", 1))
            self.check_place(9, ((0, 0), (2, thing)), ("step", 1))
            self.check_place(9, ((thing, 0), (2, 2)), ("step", 0))

    def test_at(self):
        self.check_place(5, ((-1, 0),), ("step", 0))
        self.check_place(5, ((5, 0),), ("step", 0))
        self.check_place(5, ((0, 0), (5, 0)), ("step", 1))
        self.check_place(5, ((0, 0), (6, 0)), ("step", 1))
        self.check_place(5, ((1, 0), (2, 1), (2, 2)), ("step", 2))
        self.check_place(5, ((1, 0), (3, 1), (2, 2)), ("step", 2))
        self.check_place(5, ((1, 0), (0, 1)), ("step", 1))
        self.check_place(5, ((1, 0), (-1, 1)), ("step", 1))
        self.check_place(1, ((1, 0),), ("step", 0))
        self.assertEqual(Stair(5, ((0, 0), (4, 1))).steps, ((0, 0), (4, 1)))

    def test_value(self):
        self.check_place(5, ((0, 0), (1, -1)), ("step", 1))
        self.check_place(5, ((0, -3), (1, -3), (2, -4)), ("step", 2))
        self.check_place(5, ((0, 2), (1, 3), (2, 2)), ("step", 2))
        self.assertEqual(Stair(5, ((0, 2), (1, 3), (2, 3))).steps, ((0, 2), (1, 3)))

    def test_rise(self):
        self.check_place(5, ((0, 0), (1, 6)), ("rise",))
        self.check_place(5, ((2, -9), (3, -4), (4, -3)), ("rise",))
        self.check_place(5, ((0, 0), (1, 6), (2, 7)), ("rise",))
        self.check_place(2, ((0, 0), (1, 10 ** 999)), ("rise",))
        self.assertEqual(Stair(5, ((0, 0), (1, 5))).steps, ((1, 5),))

    def test_the_first_place_as_listed(self):
        self.check_place(0, None, ("period",))
        self.check_place(True, ((9, 9), (1, 1)), ("period",))
        self.check_place("5", (), ("period",))
        self.check_place(5, [(9, 9)], ("steps",))
        self.check_place(5, ((1, 0), (0, 0), None), ("step", 1))
        self.check_place(5, ((0, 0), (1, 9), (2, 8)), ("step", 2))
        self.check_place(5, ((0, 0), (1, 99), None), ("step", 2))
        self.check_place(5, (None, (-1, 0)), ("step", 0))
        # A step is held against those ahead of it alone, whatever is wrong behind it.
        self.check_place(5, ((4, 0), (4, 0)), ("step", 1))
        self.check_place(5, ((4, 9), (3, 0), "x"), ("step", 1))

    def test_by_names(self):
        self.assertEqual(Stair(steps=((3, 2),), period=5), Stair(5, ((3, 2),)))
        with self.assertRaises(BadStair) as caught:
            Stair(steps=None, period=None)
        self.assertEqual(caught.exception.place, ("period",))


class PlainForm(unittest.TestCase):

    def check_plain(self, period, steps):
        stair = Stair(period, steps)
        self.assertEqual((stair.period, stair.steps), model.plain(period, steps), (period, steps))
        self.assertEqual(len(stair), len(stair.steps))

    def test_all_small_ones(self):
        for period, steps in model.tellings(4, -1, 1):
            self.check_plain(period, steps)

    def test_greater_ones(self):
        for period, steps in model.chance_tellings(13, 300):
            self.check_plain(period, steps)

    def test_told_with_a_greater_period(self):
        for period, steps in model.chance_tellings(14, 150, 8):
            stair = Stair(period, steps)
            for times in (2, 3, 6):
                rows = tuple((at + k * period, value + k * period) for k in range(times) for at, value in steps)
                again = Stair(times * period, rows)
                self.assertEqual((again.period, again.steps), (stair.period, stair.steps))
                self.assertEqual(again, stair)

    def test_told_with_a_step_at_each_moment(self):
        for period, steps in model.chance_tellings(15, 150, 8):
            value = model.told(period, steps)
            full = Stair(period, tuple((t, value(t)) for t in range(period)))
            self.assertEqual(repr(full), repr(Stair(period, steps)))

    def test_each_stair_has_one_plain_form(self):
        known = {}
        for period, steps in model.tellings():
            value = model.told(period, steps)
            stair = Stair(period, steps)
            form = known.setdefault(tuple(value(t) for t in range(12)), (stair.period, stair.steps))
            self.assertEqual(form, (stair.period, stair.steps))
        self.assertEqual(len(set(known.values())), len(known))

    def test_the_example(self):
        stair = Stair(10, ((0, -3), (3, 2), (8, 7)))
        self.assertEqual((stair.period, stair.steps), (5, ((3, 2),)))
        self.assertEqual(repr(stair), "Stair(5, ((3, 2),))")

    def test_the_last_step_is_ahead_of_the_first_one(self):
        self.assertEqual(Stair(7, ((0, -4), (3, 2), (5, 3))).steps, ((3, 2), (5, 3)))
        self.assertEqual(Stair(7, ((1, 0), (3, 2), (5, 7))).steps, ((3, 2), (5, 7)))

    def test_4096_steps(self):
        identity = Stair(4096, tuple((t, t) for t in range(4096)))
        self.assertEqual((identity.period, identity.steps), (1, ((0, 0),)))
        flat = Stair(4096, tuple((t, 0) for t in range(4096)))
        self.assertEqual((flat.period, flat.steps), (4096, ((0, 0),)))
        halves = Stair(8192, tuple((2 * t + 1, 2 * t) for t in range(4096)))
        self.assertEqual((halves.period, halves.steps), (2, ((1, 0),)))
        uneven = tuple((2 * t + (t == 77), 2 * t) for t in range(4096))
        self.assertEqual((Stair(8192, uneven).period, Stair(8192, uneven).steps), (8192, uneven))

    def test_a_lesser_period_needs_ats_and_values_alike(self):
        self.assertEqual(Stair(8, ((0, 0), (4, 3))).period, 8)
        self.assertEqual(Stair(8, ((0, 0), (3, 4))).period, 8)
        self.assertEqual(Stair(8, ((0, 0), (4, 4))).period, 4)
        self.assertEqual(Stair(9, ((0, 0), (3, 3), (6, 6))).period, 3)
        self.assertEqual(Stair(12, ((0, 0), (1, 5), (6, 6), (7, 11))).steps, ((0, 0), (1, 5)))
        self.assertEqual(Stair(12, ((0, 0), (1, 5), (6, 6), (7, 10))).period, 12)

    def test_period_and_steps_are_told_and_not_assigned(self):
        stair = Stair(10, ((0, -3), (3, 2), (8, 7)))
        for name in ("period", "steps"):
            with self.assertRaises(AttributeError):
                setattr(stair, name, 3)
            self.assertIsInstance(Stair.__dict__[name], property)
        self.assertEqual(stair(9), 7)


if __name__ == "__main__":
    unittest.main()
