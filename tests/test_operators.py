"""[13], [14]: the operators of STAIRs, last and again, and the facts about them."""

import unittest

from tests import model
from viewstairs.errors import OutOfPlace
from viewstairs.stairs import Stair

SMALL = [Stair(*telling) for telling in model.tellings(3, -1, 1)]
GREATER = [Stair(*telling) for telling in model.chance_tellings(21, 60)]
PAIRS = [(one, other) for one in SMALL for other in SMALL] + list(zip(GREATER, GREATER[1:] + GREATER[:1]))
TRIPLES = list(zip(GREATER, GREATER[7:] + GREATER[:7], GREATER[19:] + GREATER[:19])) + [
    (SMALL[k], SMALL[5 * k % len(SMALL)], SMALL[11 * k % len(SMALL)]) for k in range(len(SMALL))]


def moments(*stairs):
    span = 1
    for stair in stairs:
        span *= stair.period
    return range(-span - 2, span + 3)


def far(stair):
    return model.reach(stair.period, stair.steps) + stair.period


class OfTwo(unittest.TestCase):

    def check(self, made, wanted, *stairs):
        for moment in moments(*stairs):
            self.assertEqual(made(moment), wanted(moment), (stairs, moment))
        self.assertIsInstance(made, Stair)
        self.assertEqual(model.plain(made.period, made.steps), (made.period, made.steps))

    def test_product(self):
        for one, other in PAIRS:
            self.check(one * other, lambda t: one(other(t)), one, other)

    def test_lesser(self):
        for one, other in PAIRS:
            self.check(one & other, lambda t: min(one(t), other(t)), one, other)

    def test_greater(self):
        for one, other in PAIRS:
            self.check(one | other, lambda t: max(one(t), other(t)), one, other)

    def test_comparisons(self):
        for one, other in PAIRS:
            signs = {(one(t) > other(t)) - (one(t) < other(t)) for t in moments(one, other)}
            self.assertIs(one <= other, 1 not in signs)
            self.assertIs(one >= other, -1 not in signs)
            self.assertIs(one < other, 1 not in signs and -1 in signs)
            self.assertIs(one > other, -1 not in signs and 1 in signs)
            self.assertIs(one == other, signs == {0})
            self.assertIs(one != other, signs != {0})

    def test_neither_below_nor_above(self):
        one, other = Stair(4, ((0, 0), (1, 3))), Stair(4, ((0, 1), (3, 3)))
        self.assertEqual([one <= other, one >= other, one < other, one > other, one == other], [False] * 5)

    def test_equal_is_not_less(self):
        one, other = Stair(10, ((0, -3), (3, 2), (8, 7))), Stair(5, ((3, 2),))
        self.assertEqual([one <= other, one >= other, one < other, one > other, one == other],
                         [True, True, False, False, True])

    def test_unlike_at_one_moment_alone(self):
        one, other = Stair(6, ((0, 0), (5, 4))), Stair(6, ((0, 0), (5, 5)))
        self.assertEqual([one <= other, one >= other, one < other, one > other, one == other],
                         [True, False, True, False, False])

    def test_equal_to_no_other_thing(self):
        stair = Stair(5, ((3, 2),))
        for thing in model.no_stairs():
            self.assertIs(stair == thing, False)
            self.assertIs(stair != thing, True)

    def test_periods_without_a_common_divisor(self):
        one, other = Stair.beat((97, 13, 5)), Stair.beat((89, 88, 200))
        product, lesser, greater = one * other, one & other, one | other
        for moment in range(-9000, 9000):
            self.assertEqual(product(moment), one(other(moment)))
            self.assertEqual(lesser(moment), min(one(moment), other(moment)))
            self.assertEqual(greater(moment), max(one(moment), other(moment)))


class OfNumbers(unittest.TestCase):

    def test_sums_and_differences(self):
        for stair in SMALL + GREATER:
            for number in (-7, -1, 0, 1, 4, 10 ** 999, -10 ** 999):
                for moment in moments(stair):
                    self.assertEqual((stair + number)(moment), stair(moment) + number)
                    self.assertEqual((number + stair)(moment), stair(moment) + number)
                    self.assertEqual((stair - number)(moment), stair(moment) - number)

    def test_shift(self):
        for number in (-3, 0, 8, 10 ** 999):
            for moment in (-5, 0, 2, 10 ** 999):
                self.assertEqual(Stair.shift(number)(moment), moment + number)
        self.assertEqual(Stair.shift(number=4), Stair(1, ((0, 4),)))
        for stair in GREATER:
            self.assertEqual(Stair.shift(3) * stair, stair + 3)
            self.assertEqual(stair * Stair.shift(stair.period), stair + stair.period)


class OfOne(unittest.TestCase):

    def test_inverse(self):
        for stair in SMALL + GREATER:
            inverse, away = ~stair, far(stair)
            for bound in moments(stair):
                self.assertEqual(inverse(bound), model.least_reaching(stair, bound, away))
            self.assertEqual(model.plain(inverse.period, inverse.steps), (inverse.period, inverse.steps))

    def test_last(self):
        for stair in SMALL + GREATER:
            away = far(stair)
            for bound in moments(stair):
                self.assertEqual(stair.last(bound), model.greatest_within(stair, bound, away))
        self.assertEqual(GREATER[0].last(moment=3), GREATER[0].last(3))

    def test_negative(self):
        for stair in SMALL + GREATER:
            turned = -stair
            for moment in moments(stair):
                self.assertEqual(turned(moment), -stair(-moment))
            self.assertEqual(model.plain(turned.period, turned.steps), (turned.period, turned.steps))

    def test_a_thousand_digits(self):
        great = 10 ** 999
        stair = Stair(great, ((1, -great), (great - 1, -1)))
        self.assertEqual(stair.last(-1), great)
        self.assertEqual(stair.last(-2), great - 2)
        self.assertEqual((~stair)(-1), great - 1)
        self.assertEqual((~stair)(0), great + 1)
        self.assertEqual((-stair)(-great), 1)
        self.assertEqual((-stair)(-1), great)
        self.assertEqual((stair * stair)(great), stair(-1))

    def test_again(self):
        for stair in SMALL + GREATER:
            for times in range(8):
                repeated = stair.again(times)
                for moment in range(-stair.period, stair.period + 1):
                    wanted = moment
                    for _ in range(times):
                        wanted = stair(wanted)
                    self.assertEqual(repeated(moment), wanted)
                self.assertEqual(model.plain(repeated.period, repeated.steps), (repeated.period, repeated.steps))

    def test_again_and_again(self):
        for stair in SMALL + GREATER:
            power = stair
            for times in range(1, 70):
                self.assertEqual(stair.again(times), power)
                power = stair * power

    def test_again_never(self):
        for stair in SMALL[:20] + [Stair(10 ** 999, ((3, 5),))]:
            self.assertEqual(stair.again(0), Stair.shift(0))
            self.assertEqual(stair.again(0)(10 ** 999 + 3), 10 ** 999 + 3)

    def test_again_the_most_times(self):
        most = 10 ** 18
        self.assertEqual(Stair.shift(-3).again(most), Stair.shift(-3 * most))
        self.assertEqual(Stair.beat((5, 2, 1)).again(most)(3), 2 - 5 * (most - 1))
        for stair in SMALL + GREATER[:20]:
            self.assertEqual(stair.again(most), stair.again(10 ** 9).again(10 ** 9))
            self.assertEqual(stair.again(most), stair * stair.again(most - 1))
            self.assertEqual(stair.again(times=most), stair.again(most))
        for beyond in (most + 1, 2 * most, 10 ** 999, -1, -most):
            with self.assertRaises(OutOfPlace):
                SMALL[3].again(beyond)

    def test_again_with_4096_steps(self):
        chosen = model.crowd(4096, 20000)
        ats = [at for at, _ in chosen.steps]
        stair = Stair(20000, tuple((at, ats[k - 1] - 20000 * (k == 0)) for k, at in enumerate(ats)))
        times = 10 ** 18 - 3096
        repeated = stair.again(times)
        turns, rest = divmod(times, 4096)
        self.assertEqual(rest, 1000)
        for moment in (ats[4000], ats[4000] + 20000, ats[4000] - 40000):
            self.assertEqual(repeated(moment), moment - 20000 * turns - (ats[4000] - ats[4000 - rest]))
        self.assertEqual(len(repeated), 4096)


class Facts(unittest.TestCase):

    def test_the_inverse_is_beside(self):
        for stair in SMALL + GREATER:
            inverse = ~stair
            for moment in range(-stair.period - 3, stair.period + 4):
                for bound in range(stair(moment) - 3, stair(moment) + 4):
                    self.assertEqual(stair(moment) >= bound, moment >= inverse(bound))

    def test_of_two(self):
        for f, g in PAIRS:
            self.assertEqual(~(f * g), ~g * ~f)
            self.assertEqual(~(f & g), ~f | ~g)
            self.assertEqual(~(f | g), ~f & ~g)
            self.assertEqual(-(f * g), -f * -g)
            self.assertEqual(-(f & g), -f | -g)
            self.assertIs(f <= g, ~g <= ~f)

    def test_of_one(self):
        for f in SMALL + GREATER:
            self.assertEqual(-(-f), f)
            greatest = -(~(-f))
            for bound in moments(f):
                self.assertEqual(greatest(bound), f.last(bound))

    def test_of_three(self):
        for f, g, h in TRIPLES:
            self.assertEqual(f * (g & h), (f * g) & (f * h))
            self.assertEqual((g & h) * f, (g * f) & (h * f))
            self.assertEqual(f * (g | h), (f * g) | (f * h))
            self.assertEqual((g | h) * f, (g * f) | (h * f))
            self.assertEqual(f * (g * h), (f * g) * h)


class Refused(unittest.TestCase):

    def test_no_stair(self):
        stair = Stair(5, ((3, 2),))
        deeds = [lambda x: stair * x, lambda x: stair & x, lambda x: stair | x, lambda x: stair <= x,
                 lambda x: stair >= x, lambda x: stair < x, lambda x: stair > x]
        for deed in deeds:
            for thing in model.no_stairs():
                with self.assertRaises(OutOfPlace):
                    deed(thing)

    def test_no_integer(self):
        stair = Stair(5, ((3, 2),))
        deeds = [lambda x: stair + x, lambda x: stair - x, lambda x: x + stair, stair, stair.last, stair.again,
                 Stair.shift, lambda x: stair[x]]
        for deed in deeds:
            for thing in model.no_integers():
                with self.assertRaises(OutOfPlace):
                    deed(thing)
        with self.assertRaises(OutOfPlace):
            stair[0:2]

    def test_nothing_is_changed(self):
        stair, other = Stair(5, ((3, 2),)), Stair(7, ((0, 1), (2, 2)))
        for deed in (lambda: stair * 3, lambda: stair + None, lambda: stair.again(-1), lambda: stair("1"),
                     lambda: stair < other.steps):
            with self.assertRaises(OutOfPlace):
                deed()
        self.assertEqual((repr(stair), repr(other)), ("Stair(5, ((3, 2),))", "Stair(7, ((0, 1), (2, 2)))"))


if __name__ == "__main__":
    unittest.main()
