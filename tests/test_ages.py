"""[40]: AGEs, WAITs, shares, and reports."""

import fractions
import random
import unittest

from tests import model, model_webs
from viewstairs.ages import greatest_age, greatest_wait, least_age, least_wait, report, share_beyond
from viewstairs.errors import BadReads, BadWeb, OutOfPlace, TooGreat
from viewstairs.paths import leaves, path_stair
from viewstairs.stairs import Stair

SOME = [Stair(*telling) for telling in model.tellings(3, -2, 2)]
SOME += [Stair(*telling) for telling in model.chance_tellings(61, 200)]
BEAT = Stair.beat((5, 2, 1))
GREAT = 10 ** 999
WEB = ((("a", None), ("b", (7, 1))), (("v", (5, 2, 1), (("a", "ahead"), ("b", "with"))),))


def first_with(best, rows):
    """The best one of some numbers, and the first place that has it."""
    found = best(rows)
    return found, rows.index(found)


def waits(stair):
    """The WAITs at the MOMENTs of one PERIOD from 0 on."""
    far = model.reach(stair.period, stair.steps) + stair.period
    return [model.least_reaching(stair, moment, far) - moment for moment in range(stair.period)]


class Ages(unittest.TestCase):

    def test_against_the_definition(self):
        for stair in SOME:
            ages = [moment - stair(moment) for moment in range(stair.period)]
            self.assertEqual(greatest_age(stair), first_with(max, ages))
            self.assertEqual(least_age(stair), first_with(min, ages))

    def test_plain_ones(self):
        self.assertEqual((greatest_age(BEAT), least_age(BEAT)), ((5, 2), (1, 3)))
        self.assertEqual(greatest_age(stair=Stair.shift(0)), (0, 0))
        self.assertEqual(least_age(stair=Stair.shift(3)), (-3, 0))
        self.assertEqual(greatest_age(Stair.shift(3)), (-3, 0))
        self.assertEqual((greatest_age(Stair(4, ((0, 0),))), least_age(Stair(4, ((0, 0),)))), ((3, 3), (0, 0)))

    def test_the_first_moment_of_several(self):
        stair = Stair(20, ((0, 0), (4, 4), (8, 8), (12, 12)))
        self.assertEqual((greatest_age(stair), least_age(stair)), ((7, 19), (0, 0)))
        stair = Stair(20, ((5, 0), (10, 5), (15, 11)))
        self.assertEqual((greatest_age(stair), least_age(stair)), ((13, 4), (4, 15)))
        stair = Stair(30, ((5, 0), (9, 4), (20, 15), (24, 19), (25, 20)))
        self.assertEqual((greatest_age(stair), least_age(stair)), ((15, 19), (5, 5)))
        stair = Stair(10, ((1, 0), (2, 1), (5, 4), (9, 7)))
        self.assertEqual((greatest_age(stair), least_age(stair)), ((4, 8), (1, 1)))

    def test_great_integers(self):
        stair = Stair(GREAT, ((5, 2), (GREAT // 2, 7)))
        self.assertEqual(greatest_age(stair), (GREAT - 1 - 7 + 5, 4))
        self.assertEqual(least_age(stair), (3, 5))
        self.assertEqual(greatest_age(Stair.shift(-GREAT)), (GREAT, 0))
        crowd = model.crowd(4096, 9000)
        self.assertEqual(greatest_age(crowd), first_with(max, [t - crowd(t) for t in range(9000)]))
        self.assertEqual(least_age(crowd), first_with(min, [t - crowd(t) for t in range(9000)]))

    def test_wrong_things(self):
        for thing in model.no_stairs():
            for deed in (greatest_age, least_age, greatest_wait, least_wait):
                with self.assertRaises(OutOfPlace):
                    deed(thing)


class Waits(unittest.TestCase):

    def test_against_the_definition(self):
        for stair in SOME:
            self.assertEqual(greatest_wait(stair), first_with(max, waits(stair)))
            self.assertEqual(least_wait(stair), first_with(min, waits(stair)))

    def test_plain_ones(self):
        self.assertEqual((greatest_wait(BEAT), least_wait(BEAT)), ((5, 3), (1, 2)))
        self.assertEqual(greatest_wait(stair=Stair.shift(-4)), (4, 0))
        self.assertEqual(least_wait(stair=Stair.shift(4)), (-4, 0))

    def test_great_integers(self):
        stair = Stair(GREAT, ((5, 2), (GREAT // 2, 7)))
        self.assertEqual(greatest_wait(stair), (GREAT - 3, 8))
        self.assertEqual(least_wait(stair), (3, 2))
        crowd = model.crowd(4096, 9000)
        inverse = ~crowd
        self.assertEqual(greatest_wait(crowd), first_with(max, [inverse(m) - m for m in range(9000)]))
        self.assertEqual(least_wait(crowd), first_with(min, [inverse(m) - m for m in range(9000)]))


class Shares(unittest.TestCase):

    def test_against_the_definition(self):
        for stair in SOME:
            ages = [moment - stair(moment) for moment in range(stair.period)]
            for number in range(min(ages) - 2, max(ages) + 3):
                wanted = fractions.Fraction(sum(age > number for age in ages), stair.period)
                self.assertEqual(share_beyond(stair, number), (wanted.numerator, wanted.denominator))

    def test_plain_ones(self):
        self.assertEqual([share_beyond(BEAT, number) for number in (0, 1, 2, 3, 4, 5)],
                         [(1, 1), (4, 5), (3, 5), (2, 5), (1, 5), (0, 1)])
        self.assertEqual(share_beyond(stair=Stair(6, ((0, 0),)), number=2), (1, 2))

    def test_all_and_none(self):
        for number, share in ((-GREAT, (1, 1)), (GREAT, (0, 1))):
            for stair in SOME[::20]:
                self.assertEqual(share_beyond(stair, number), share)

    def test_great_integers(self):
        stair = Stair(6 * GREAT, ((0, 0), (3 * GREAT, 3 * GREAT)))
        self.assertEqual(share_beyond(stair, 2 * GREAT - 1), (1, 3))
        self.assertEqual(share_beyond(stair, 0), (3 * GREAT - 1, 3 * GREAT))

    def test_wrong_things(self):
        for thing in model.no_stairs():
            for number in (3, None):
                with self.assertRaises(OutOfPlace):
                    share_beyond(thing, number)
        for thing in model.no_integers():
            with self.assertRaises(OutOfPlace):
                share_beyond(BEAT, thing)


class Reports(unittest.TestCase):

    def test_plain_ones(self):
        self.assertEqual(report(WEB, ("v",)), "       6       2 v < a\n       5       1 v < b")
        self.assertEqual(report(web=WEB, reads=("b",)), "       0       0 b")
        self.assertEqual(report(WEB, ("b", "v", "a")), "       0       0 b\n" + report(WEB, ("v",)) +
                         "\n       0       0 a")

    def test_against_the_definition(self):
        chance = random.Random(3)
        for web in model_webs.chance_webs(21, 100):
            reads = model_webs.chance_reads(chance, web)
            lines = []
            for path in leaves(web, reads):
                stair = path_stair(web, path)
                ages = [moment - stair(moment) for moment in range(stair.period)]
                lines.append(f"{max(ages):8d}{min(ages):8d} " + " < ".join(path))
            self.assertEqual(report(web, reads), "\n".join(lines))

    def test_eight_digits(self):
        most = 1000000
        views = [("s", (most, 7, most), (("a", "with"),))]
        for place, (name, ahead) in enumerate(zip("tuvwxyz", "stuvwxy")):
            views.append((name, (most, 6 - place, most), ((ahead, "with"),)))
        web = ((("a", None),), tuple(views))
        self.assertEqual(report(web, ("z",)), "1599999214999993 z < y < x < w < v < u < t < s < a")

    def test_200_leaves(self):
        text = report(model_webs.broad(200), ("z",))
        self.assertEqual(len(text.split("\n")), 200)
        with self.assertRaises(TooGreat) as caught:
            report(model_webs.broad(201), ("z",))
        self.assertEqual(caught.exception.most, 200)

    def test_a_load_is_never_too_great(self):
        web = ((("a", (1000000, 5)),), (("v", (1, 0, 0), (("a", "with"),)), ("w", (4096, 0, 0), (("v", "with"),))))
        self.assertEqual(report(web, ("v", "w")), "       0       0 v < a\n    4095       0 w < v < a")

    def test_refused(self):
        slow = ((("a", None),), (("v", (4097, 0, 0), (("a", "with"),)), ("w", (1, 0, 0), (("v", "with"),))))
        with self.assertRaises(TooGreat) as caught:
            report(slow, ("a", "w"))
        self.assertEqual(caught.exception.most, 4096)
        for reads, place in ((None, ()), (("w", "w"), (1,)), (("w", "x"), (1,)), (("a", True), (1,))):
            with self.assertRaises(BadReads) as caught:
                report(slow, reads)
            self.assertEqual(caught.exception.place, place)
        with self.assertRaises(BadReads):
            report(model_webs.broad(201), ("z", "z"))
        for thing in model.no_integers() + [0, ((None,), ())]:
            with self.assertRaises(BadWeb):
                report(thing, None)

    def test_200_comes_before_4096(self):
        tables, views = model_webs.broad(201)
        views = tuple((name, (4097 if name == "p" else 1, 0, 0), sources) for name, _, sources in views)
        with self.assertRaises(TooGreat) as caught:
            report((tables, views), ("z",))
        self.assertEqual(caught.exception.most, 200)
        with self.assertRaises(TooGreat) as caught:
            report((tables, views), ("q",))
        self.assertEqual(caught.exception.most, 4096)


if __name__ == "__main__":
    unittest.main()
