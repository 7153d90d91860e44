"""[15]: what is refused with TooGreat(4096), exactly beyond the bound."""

import unittest

from tests import model
from viewstairs.errors import OutOfPlace, TooGreat
from viewstairs.stairs import MOST_STEPS, Stair, first_unlike


class Bounds(unittest.TestCase):

    def check_refused(self, deed):
        with self.assertRaises(TooGreat) as caught:
            deed()
        self.assertEqual(caught.exception.most, 4096)

    def check_four(self, one, other, refused):
        deeds = [lambda: one <= other, lambda: one >= other, lambda: one < other, lambda: one > other]
        for deed in deeds:
            if refused:
                self.check_refused(deed)
            else:
                self.assertIsInstance(deed(), bool)

    def test_product(self):
        shift = Stair.shift(-2)
        for period in (4095, 4096):
            stair = Stair(period, ((3, 2),))
            self.assertEqual(stair * shift, Stair(period, ((5, 2),)))
            self.assertEqual(shift * stair, Stair(period, ((3, 0),)))
        for period in (4097, 8192, 10 ** 999):
            stair = Stair(period, ((3, 2),))
            self.check_refused(lambda: stair * shift)
            self.assertEqual(shift * stair, Stair(period, ((3, 0),)))

    def test_product_counts_the_right_side_alone(self):
        crowd = model.crowd(4096, 9000)
        one = Stair(9000, ((4, 4),))
        self.assertEqual(len(crowd * one), 1)
        self.assertEqual((one * crowd)(8999), one(crowd(8999)))
        self.assertEqual((crowd * crowd)(8999), crowd(crowd(8999)))
        self.check_refused(lambda: one * model.crowd(4096, 4500 * 3))
        self.check_refused(lambda: Stair(18000, ((4, 4),)) * crowd)
        self.assertEqual((crowd * Stair(18000, ((4, 4),))).period, 18000)

    def test_product_counts_in_the_common_multiple(self):
        right = model.crowd(8, 30)
        # 8 steps in 30 are 4,096 in 15,360.
        for period in (512, 514, 1024, 1025, 1026, 15360):
            left = Stair(period, ((3, 2),))
            for moment in range(-70, 70):
                self.assertEqual((left * right)(moment), left(right(moment)))
        for period in (1031, 2048, 15390, 30720):
            left = Stair(period, ((3, 2),))
            self.check_refused(lambda: left * right)

    def test_product_with_one_step_more(self):
        left = Stair(24000, ((3, 2),))
        right, more = model.crowd(1024, 6000), model.crowd(1025, 6000)
        self.assertEqual((left * right)(23999), left(right(23999)))
        self.check_refused(lambda: left * more)

    def test_plain_forms_are_counted(self):
        shift = Stair(100, tuple((at, at - 2) for at in range(100)))
        plain = Stair(4096, ((3, 2),))
        self.assertEqual(plain * shift, Stair(4096, ((5, 2),)))
        told = Stair(2 * 4097, ((3, 2), (4, 2), (4100, 4099)))
        self.assertEqual(told.period, 4097)
        self.check_refused(lambda: told * shift)
        twice = Stair(4097 * 2, ((0, 0), (1, 0), (4097, 4097)))
        self.assertEqual(twice * Stair(4097, ((0, 0),)), Stair(4097, ((0, 0),)))
        half = Stair(8192, ((0, 0), (4096, 4096)))
        self.assertEqual(half * shift, Stair(4096, ((2, 0),)))

    def test_two_together(self):
        one, other, more = model.crowd(2048, 9000, 1), model.crowd(2048, 9000, 2), model.crowd(2049, 9000, 3)
        self.assertEqual((one & other)(8999), min(one(8999), other(8999)))
        self.assertEqual((one | other)(8999), max(one(8999), other(8999)))
        self.check_four(one, other, False)
        self.assertIsInstance(first_unlike(one, other), int)
        for left, right in ((one, more), (more, one)):
            self.check_refused(lambda: left & right)
            self.check_refused(lambda: left | right)
            self.check_four(left, right, True)
            self.check_refused(lambda: first_unlike(left, right))
            self.assertIs(left == right, False)
            self.assertIs(left != right, True)

    def test_equal_ones_together(self):
        one, more = model.crowd(2048, 9000), model.crowd(2049, 9000)
        again, more_again = model.crowd(2048, 9000), model.crowd(2049, 9000)
        for other in (one, again):
            self.assertEqual(one & other, one)
            self.assertEqual(one | other, one)
            self.assertEqual([one <= other, one >= other, one < other, one > other], [True, True, False, False])
        for other in (more, more_again):
            self.check_refused(lambda: more & other)
            self.check_refused(lambda: more | other)
            self.check_four(more, other, True)
            self.assertIs(more == other, True)
            self.assertIsNone(first_unlike(more, other))

    def test_two_together_in_the_common_multiple(self):
        one = Stair(4095, ((3, 2),))
        shift = Stair.shift(-1)
        self.assertEqual((one & shift)(4094), 2)
        self.assertEqual((shift | one)(4094), 4093)
        self.check_four(one, shift, False)
        for left, right in ((Stair(4096, ((3, 2),)), shift), (shift, Stair(4096, ((3, 2),))),
                            (Stair(10 ** 999, ((3, 2),)), Stair(10 ** 998 + 1, ((3, 2),)))):
            self.check_refused(lambda: left & right)
            self.check_refused(lambda: left | right)
            self.check_four(left, right, True)
            self.check_refused(lambda: first_unlike(left, right))

    def test_great_periods_with_a_common_divisor(self):
        great = 10 ** 990
        one, other = Stair(6 * great, ((3, 2),)), Stair(10 * great, ((5, 1),))
        product = one * other
        self.assertEqual(product.period, 30 * great)
        for moment in (0, 4, 5, 10 * great + 5, -10 * great, 29 * great):
            self.assertEqual(product(moment), one(other(moment)))
            self.assertEqual((one & other)(moment), min(one(moment), other(moment)))

    def test_what_is_never_refused(self):
        crowd = model.crowd(4096, 9000)
        self.assertEqual(len(~crowd), 4096)
        self.assertEqual(len(-crowd), 4096)
        self.assertEqual((crowd + 3).steps[0][1], crowd.steps[0][1] + 3)
        self.assertEqual((3 + crowd) - 3, crowd)
        self.assertEqual(crowd.again(3), crowd * crowd * crowd)
        self.assertEqual((~crowd)(crowd.steps[9][1]), crowd.steps[9][0])

    def test_wrong_things_come_first(self):
        crowd = model.crowd(4096, 9000)
        for deed in (lambda: crowd & 3, lambda: crowd <= None, lambda: crowd * "x"):
            with self.assertRaises(OutOfPlace):
                deed()

    def test_nothing_is_changed(self):
        one, other = Stair(4099, ((3, 2),)), Stair(4097, ((0, 1),))
        for deed in (lambda: one * other, lambda: one & other, lambda: one < other):
            self.check_refused(deed)
        self.assertEqual((repr(one), repr(other)), ("Stair(4099, ((3, 2),))", "Stair(4097, ((0, 1),))"))

    def test_the_bound(self):
        self.assertEqual(MOST_STEPS, 4096)


if __name__ == "__main__":
    unittest.main()
