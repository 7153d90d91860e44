"""[16]: BEATs and the STAIR of a BEAT."""

import unittest

from tests import model
from viewstairs.errors import OutOfPlace
from viewstairs.stairs import MOST_BEAT, Stair


class Beats(unittest.TestCase):

    def test_all_small_ones(self):
        for period in range(1, 7):
            for offset in range(period):
                for takes in range(15):
                    stair = Stair.beat((period, offset, takes))
                    starts = [offset + turn * period for turn in range(-40, 40)]
                    for moment in range(-14, 15):
                        wanted = max(start for start in starts if start + takes <= moment)
                        self.assertEqual(stair(moment), wanted, (period, offset, takes, moment))
                    self.assertEqual((stair.period, len(stair)), (period, 1))

    def test_the_example(self):
        self.assertEqual(repr(Stair.beat((5, 2, 1))), "Stair(5, ((3, 2),))")
        self.assertEqual(Stair.beat(beat=(5, 2, 1)), Stair(10, ((0, -3), (3, 2), (8, 7))))

    def test_live(self):
        self.assertEqual(Stair.beat((1, 0, 0)), Stair.shift(0))
        self.assertEqual(Stair.beat((1, 0, 7)), Stair.shift(-7))

    def test_the_ends_of_the_bounds(self):
        most = 1000000
        self.assertEqual(MOST_BEAT, most)
        for period in (1, most):
            for offset in (0, period - 1):
                for takes in (0, most):
                    stair = Stair.beat((period, offset, takes))
                    for turn in (-2, 0, 3):
                        done = offset + turn * period + takes
                        self.assertEqual(stair(done), done - takes)
                        self.assertEqual(stair(done - 1), done - takes - period)
                        self.assertEqual(stair(done + period - 1), done - takes)

    def test_beyond_the_bounds(self):
        most = 1000000
        for beat in ((0, 0, 0), (-1, 0, 0), (most + 1, 0, 0), (5, -1, 0), (5, 5, 0), (5, 6, 0), (1, 1, 0),
                     (5, 2, -1), (5, 2, most + 1), (most, most, 0), (10 ** 999, 0, 0), (5, 0, 10 ** 999)):
            with self.assertRaises(OutOfPlace):
                Stair.beat(beat)

    def test_wrong_kinds(self):
        for thing in model.no_integers() + [5, [5, 2, 1], (5, 2), (5, 2, 1, 0), ((5, 2, 1),)]:
            if isinstance(thing, tuple) and len(thing) == 3:
                continue
            with self.assertRaises(OutOfPlace):
                Stair.beat(thing)
        for thing in model.no_integers():
            for beat in ((thing, 0, 0), (5, thing, 0), (5, 0, thing), (thing, thing, thing)):
                with self.assertRaises(OutOfPlace):
                    Stair.beat(beat)


if __name__ == "__main__":
    unittest.main()
