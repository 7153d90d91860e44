"""[50], [51], [52]: TORN MOMENTs, certificates of WHOLE READS, shares, rows of TORN MOMENTs and the next one."""

import fractions
import random
import unittest

from tests import model, model_webs
from viewstairs.errors import BadPaper, BadReads, BadWeb, OutOfPlace, TooGreat
from viewstairs.moments import check_whole, longest_torn, next_torn, torn_at, torn_share, whole_paper
from viewstairs.stairs import Stair

V, W = ("v", (3, 0, 0), (("a", "with"),)), ("w", (2, 0, 0), (("v", "with"), ("b", "with")))
WEB = ((("a", None), ("b", None)), (V, W))
GREAT = 10 ** 999
# All PERIODs up to 5 divide it.
ALL = 60


def cases(seed, webs):
    """The WEBs with READS, and the SPANs of all LEAVES at each MOMENT from 0 on and below twice ALL."""
    chance = random.Random(seed)
    for web in webs:
        reads = model_webs.chance_reads(chance, web)
        if chance.random() < 0.7:
            reads = web[1][-1][:1]
        yield web, reads, [model_webs.spans_at(web, reads, shown) for _, shown in model_webs.run(web, 0, 2 * ALL)]


CASES = list(cases(31, model_webs.chance_webs(31, 70))) + list(cases(32, model_webs.slow_webs(32, 90)))


def side(*periods, load=None):
    """A WEB of one table and of views beside each other, and the NAMEs of these."""
    names = tuple("stuvwxyz"[:len(periods)])
    views = tuple((name, (period, 0, 0), (("a", "with"),)) for name, period in zip(names, periods))
    return ((("a", load),), views), names


def torn_moments(rows):
    """The TORN MOMENTs among those of the rows."""
    return [moment for moment, spans in enumerate(rows) if model_webs.torn_pair(spans) is not None]


class Definitions(unittest.TestCase):

    def test_both_kinds_are_there(self):
        torn = [len(torn_moments(rows)) for _, _, rows in CASES]
        self.assertGreater(torn.count(0), 20)
        self.assertGreater(torn.count(2 * ALL), 5)
        self.assertGreater(len(torn) - torn.count(0) - torn.count(2 * ALL), 50)

    def test_torn_at(self):
        for web, reads, rows in CASES:
            for moment, spans in enumerate(rows[:ALL]):
                pair = torn_at(web, reads, moment)
                self.assertEqual(pair, model_webs.torn_pair(spans))
                self.assertIs(pair is None, model_webs.is_whole(spans))
                if moment % 9 == 0:
                    self.assertEqual(torn_at(web, reads, moment - 7 * ALL), pair)

    def test_whole_paper(self):
        for web, reads, rows in CASES:
            paper, torn = whole_paper(web, reads), torn_moments(rows)
            if torn:
                self.assertEqual(paper, ("torn", torn[0]) + model_webs.torn_pair(rows[torn[0]]))
            else:
                word, stair = paper
                self.assertEqual(word, "whole")
                lowers = [max(lower for lower, _ in spans) for spans in rows]
                self.assertEqual([stair(moment) for moment in range(2 * ALL)], lowers)
            self.assertEqual(check_whole(web, reads, paper), paper[0])

    def test_torn_share(self):
        for web, reads, rows in CASES:
            wanted = fractions.Fraction(len(torn_moments(rows)), 2 * ALL)
            self.assertEqual(torn_share(web, reads), (wanted.numerator, wanted.denominator))

    def test_longest_torn(self):
        for web, reads, rows in CASES:
            torn = torn_moments(rows)
            longest = many = 0
            for moment in range(2 * ALL):
                many = many + 1 if moment in torn else 0
                longest = max(longest, many)
            self.assertEqual(longest_torn(web, reads), None if longest == 2 * ALL else longest)

    def test_next_torn(self):
        for web, reads, rows in CASES:
            torn = torn_moments(rows)
            for moment in range(ALL):
                wanted = min([other for other in torn if other >= moment], default=None)
                self.assertEqual(next_torn(web, reads, moment), wanted)
                if moment % 9 == 0:
                    far = None if wanted is None else wanted - 11 * ALL
                    self.assertEqual(next_torn(web, reads, moment - 11 * ALL), far)


class Certificates(unittest.TestCase):

    def check_stair(self, web, reads, rows, stair):
        within = all(lower <= stair(moment) <= upper for moment in range(2 * ALL) for lower, upper in rows[moment])
        if within:
            self.assertEqual(check_whole(web, reads, ("whole", stair)), "whole")
        else:
            with self.assertRaises(BadPaper) as caught:
                check_whole(web, reads, ("whole", stair))
            self.assertEqual(caught.exception.part, "stair")
        return within

    def test_other_stairs(self):
        fit = 0
        for web, reads, rows in CASES:
            lowest = Stair(ALL, tuple((t, max(lower for lower, _ in rows[t])) for t in range(ALL)))
            highest = Stair(ALL, tuple((t, min(upper for _, upper in rows[t])) for t in range(ALL)))
            for stair in (lowest, highest, lowest - 1, highest + 1, lowest + 1, highest - 1, lowest & highest,
                          Stair.shift(0), Stair.shift(10 ** 30)):
                fit += self.check_stair(web, reads, rows, stair)
        self.assertGreater(fit, 150)

    def test_a_stair_that_is_out_at_one_moment(self):
        web, reads = side(2, 4, load=(4, 0))
        self.assertEqual(check_whole(web, reads, ("whole", Stair(4, ((0, 0), (2, 2), (3, 3))))), "whole")
        self.assertEqual(check_whole(web, reads, ("whole", Stair(8, ((0, 0), (3, 3), (4, 4), (7, 5))))), "whole")
        for stair in (Stair(8, ((0, 0), (7, 8))), Stair(8, ((0, 0), (3, 3), (5, 4))), Stair(4, ((0, 4),)),
                      Stair(4, ((1, 0),))):
            with self.assertRaises(BadPaper) as caught:
                check_whole(web, reads, ("whole", stair))
            self.assertEqual(caught.exception.part, "stair")

    def test_torn_ones(self):
        for web, reads, rows in CASES[::8]:
            many = len(rows[0])
            for moment in (0, 3, 59, 61, 119):
                for one in range(-2, many + 2):
                    for other in range(-2, many + 2):
                        told = 0 <= one < many and 0 <= other < many and rows[moment][one][0] > rows[moment][other][1]
                        for at in (moment, moment - ALL, moment + ALL * GREAT):
                            self.check_torn(web, reads, ("torn", at, one, other), told)

    def check_torn(self, web, reads, paper, told):
        if told:
            self.assertEqual(check_whole(web, reads, paper), "torn")
            return
        with self.assertRaises(BadPaper) as caught:
            check_whole(web, reads, paper)
        self.assertEqual(caught.exception.part, "torn")

    def test_other_torn_ones_than_the_told_one(self):
        for moment in (2, 3, 4, 5, 8, -1, -4):
            self.check_torn(WEB, ("w",), ("torn", moment, 1, 0), True)
        for paper in (("torn", 2, 0, 1), ("torn", 2, 1, 1), ("torn", 0, 1, 0),
                      ("torn", 1, 1, 0), ("torn", 6, 1, 0), ("torn", 2, 1, 2), ("torn", 2, 1, -2),
                      ("torn", 2, -1, 0), ("torn", 2, 2, 0), ("torn", 2, GREAT, 0), ("torn", 2, 1, -GREAT)):
            self.check_torn(WEB, ("w",), paper, False)

    def test_form(self):
        stair = Stair.shift(0)
        for paper in model.no_integers() + [
                0, ("whole",), ("whole", stair, stair), ("whole", 3), ("torn", stair), ["whole", stair],
                ("WHOLE", stair), (stair, "whole"), ("whole", None), ("whole", (1, ((0, 0),))), (b"whole", stair),
                (None, stair), (model.Hostile(), stair), ("whole", model.Hostile()), ("torn", 2, 1),
                ("torn", 2, 1, 0, 0), ["torn", 2, 1, 0], ("torn", 2, 1, None), ("torn", True, 1, 0),
                ("torn", 2, True, 0), ("torn", 2, 1, False), ("torn", 2, "1", 0), ("Torn", 2, 1, 0),
                (2, "torn", 1, 0), (2, 1, 0), ("whole", 2, 1, 0), ("live", ("v",), ()),
                (model.Hostile(), 2, 1, 0), ("torn", model.Hostile(), 1, 0)]:
            with self.assertRaises(BadPaper) as caught:
                check_whole(WEB, ("w",), paper)
            self.assertEqual(caught.exception.part, "form")

    def test_the_stair_is_refused_as_by_the_sign(self):
        web, _ = side(4096, 1)
        late, far = Stair(4096, ((0, -1),)), Stair(4096, ((0, 0),))
        for reads, stair in ((("t", "s"), late), (("t", "s"), far), (("s", "t"), far), (("t",), late)):
            with self.assertRaises(TooGreat) as caught:
                check_whole(web, reads, ("whole", stair))
            self.assertEqual(caught.exception.most, 4096)
        for reads, stair in ((("s", "t"), late), (("s",), late), (("s", "t"), Stair(4096, ((0, 1),)))):
            with self.assertRaises(BadPaper) as caught:
                check_whole(web, reads, ("whole", stair))
            self.assertEqual(caught.exception.part, "stair")
        self.assertEqual(check_whole(web, ("s",), ("whole", far)), "whole")


class Plain(unittest.TestCase):

    def test_the_example(self):
        self.assertEqual((whole_paper(WEB, ("w",)), torn_share(WEB, ("w",)), longest_torn(WEB, ("w",))),
                         (("torn", 2, 1, 0), (2, 3), 4))
        self.assertEqual([torn_at(WEB, ("w",), moment) for moment in range(7)],
                         [None, None, (1, 0), (1, 0), (1, 0), (1, 0), None])
        self.assertEqual([next_torn(WEB, ("w",), moment) for moment in (-7, -2, -1, 0, 1, 2, 5, 6, 7, 8)],
                         [-4 - 3, -2, -1, 2, 2, 2, 5, 8, 8, 8])

    def test_by_names(self):
        self.assertEqual(whole_paper(web=WEB, reads=("v",)), ("whole", Stair.beat((3, 0, 0))))
        self.assertEqual(check_whole(web=WEB, reads=("v",), paper=("whole", Stair.beat((3, 0, 0)))), "whole")
        self.assertEqual(torn_at(web=WEB, reads=("w",), moment=2), (1, 0))
        self.assertEqual(torn_share(web=WEB, reads=("w",)), (2, 3))
        self.assertEqual(longest_torn(web=WEB, reads=("w",)), 4)
        self.assertEqual(next_torn(web=WEB, reads=("w",), moment=0), 2)

    def test_never_torn(self):
        for reads in (("v",), ("a",), ("a", "b"), ("b", "a")):
            self.assertEqual(whole_paper(WEB, reads)[0], "whole")
            self.assertEqual((torn_share(WEB, reads), longest_torn(WEB, reads)), ((0, 1), 0))
            self.assertEqual((next_torn(WEB, reads, -GREAT), torn_at(WEB, reads, GREAT)), (None, None))

    def test_always_torn(self):
        web = (WEB[0], (("v", (1, 0, 0), (("a", "ahead"),)),))
        self.assertEqual(whole_paper(web, ("v", "a")), ("torn", 0, 1, 0))
        self.assertEqual(whole_paper(web, ("a", "v")), ("torn", 0, 0, 1))
        self.assertEqual((torn_share(web, ("v", "a")), longest_torn(web, ("v", "a"))), ((1, 1), None))
        self.assertEqual([next_torn(web, ("v", "a"), moment) for moment in (-GREAT, 0, 7)], [-GREAT, 0, 7])

    def test_all_but_one_are_torn(self):
        web, reads = side(60, 1)
        self.assertEqual(whole_paper(web, reads), ("torn", 1, 1, 0))
        self.assertEqual((torn_share(web, reads), longest_torn(web, reads)), ((59, 60), 59))
        self.assertEqual(next_torn(web, reads, 60 * GREAT), 60 * GREAT + 1)
        self.assertEqual(next_torn(web, reads, 60 * GREAT - 1), 60 * GREAT - 1)

    def test_a_row_over_the_end_of_the_multiple(self):
        tables = (("a", None),)
        web = (tables, (("v", (10, 7, 0), (("a", "with"),)), ("w", (10, 3, 0), (("a", "with"),))))
        self.assertEqual((torn_share(web, ("v", "w")), longest_torn(web, ("v", "w"))), ((1, 1), None))
        web = (tables, (("v", (10, 4, 0), (("a", "with"),)), ("w", (5, 4, 0), (("a", "with"),))))
        self.assertEqual((torn_share(web, ("v", "w")), longest_torn(web, ("v", "w"))), ((1, 2), 5))
        web = (tables, (("x", (10, 0, 2), (("a", "with"),)), ("y", (5, 0, 2), (("a", "with"),))))
        self.assertEqual((torn_share(web, ("x", "y")), longest_torn(web, ("x", "y"))), ((1, 2), 5))
        self.assertEqual([next_torn(web, ("x", "y"), moment) for moment in (0, 1, 2, 6, 7, 11, 12)],
                         [0, 1, 7, 7, 7, 11, 17])
        self.assertEqual(whole_paper(web, ("x", "y")), ("torn", 0, 1, 0))

    def test_loads_make_whole(self):
        web = ((("a", (6, 0)), ("b", (6, 0))), (V, W))
        self.assertEqual(whole_paper(web, ("w",)), ("whole", Stair(6, ((0, 0),))))
        web = ((("a", (6, 5)), ("b", (6, 0))), (V, W))
        self.assertEqual(whole_paper(web, ("w",))[0], "whole")
        web = ((("a", (6, 0)), ("b", (6, 2))), (V, W))
        self.assertEqual(whole_paper(web, ("w",)), ("whole", Stair(6, ((0, -4 + 4), (2, 2)))))

    def test_great_moments(self):
        moment = 6 * GREAT
        self.assertEqual(torn_at(WEB, ("w",), moment + 2), (1, 0))
        self.assertIsNone(torn_at(WEB, ("w",), moment + 1))
        self.assertEqual(next_torn(WEB, ("w",), moment), moment + 2)
        self.assertEqual(next_torn(WEB, ("w",), -moment), 2 - moment)

    def test_great_beats(self):
        most = 1000000
        web = (WEB[0], (("v", (most, 0, most), (("a", "with"),)), ("w", (most, most - 1, 0), (("b", "ahead"),))))
        self.assertEqual(whole_paper(web, ("v", "w")), ("torn", 0, 1, 0))
        self.assertEqual(longest_torn(web, ("v", "w")), None)
        web = (WEB[0], (("v", (most, 0, 0), (("a", "with"),)), ("w", (most, 1, 0), (("b", "ahead"),))))
        self.assertEqual((torn_share(web, ("v", "w")), longest_torn(web, ("v", "w"))), ((1, most), 1))
        self.assertEqual(next_torn(web, ("v", "w"), 1), most)


class Bounds(unittest.TestCase):

    def deeds(self, web, reads):
        return [lambda: whole_paper(web, reads), lambda: torn_share(web, reads), lambda: longest_torn(web, reads),
                lambda: next_torn(web, reads, 0)]

    def check_4096(self, web, reads):
        for deed in self.deeds(web, reads):
            with self.assertRaises(TooGreat) as caught:
                deed()
            self.assertEqual(caught.exception.most, 4096)

    def test_all_lowers_together(self):
        web, reads = side(1, 4095)
        self.assertEqual(whole_paper(web, reads), ("torn", 1, 0, 1))
        self.assertEqual((torn_share(web, reads), longest_torn(web, reads)), ((4094, 4095), 4094))
        self.assertEqual(next_torn(web, reads, 4095), 4096)
        self.check_4096(*side(1, 4096))
        self.check_4096(*side(63, 65, 4097))
        self.check_4096(*side(1000000, 999999))

    def test_equal_lowers_are_counted_each(self):
        web, reads = side(1, 1, 2047)
        self.assertEqual(torn_share(web, reads), (2046, 2047))
        self.check_4096(*side(1, 1, 2048))
        self.check_4096(*side(1, 1, 1, 1, 1024))
        web, reads = side(1, 1, 1, 1, 1023)
        self.assertEqual(torn_share(web, reads), (1022, 1023))

    def test_lowers_are_counted_not_the_stairs_of_paths(self):
        web, reads = side(1, 4096, load=(4096, 0))
        self.assertEqual(whole_paper(web, reads), ("whole", Stair(4096, ((0, 0),))))
        web, reads = side(4095, 4095, load=(8, 0))
        self.check_4096(((("a", (1, 0)), ("b", None)), web[1] + (("z", (4, 0, 0), (("b", "with"),)),)), ("s", "z"))

    def test_4096_steps_none_at_0(self):
        views = (("v", (4096, 1, 0), (("a", "with"),)), ("w", (4097, 1, 0), (("v", "with"),)))
        web = ((("a", None),), views)
        word, stair = whole_paper(web, ("w",))
        self.assertEqual((word, len(stair), stair.steps[0]), ("whole", 4096, (1, 1)))
        self.assertEqual(stair, Stair.beat((4096, 1, 0)) * Stair.beat((4097, 1, 0)))
        self.assertEqual(longest_torn(web, ("w",)), 0)
        self.check_4096(web, ("w", "v"))

    def test_what_does_not_ask_for_all_together(self):
        web, reads = side(1, 4096)
        self.assertEqual(torn_at(web, reads, 7), (0, 1))
        self.assertEqual(check_whole(web, reads, ("torn", 7, 0, 1)), "torn")
        web, reads = side(1, 4096, load=None)
        with self.assertRaises(BadPaper):
            check_whole(web, reads, ("torn", 7, 1, 0))
        web, reads = side(999999, 1000000)
        self.assertEqual(torn_at(web, reads, 999999), (0, 1))
        with self.assertRaises(BadPaper) as caught:
            check_whole(web, ("s",), ("whole", Stair(999999, ((0, -1),))))
        self.assertEqual(caught.exception.part, "stair")

    def test_lower_stairs_that_are_too_great(self):
        views = (("v", (4097, 0, 0), (("a", "with"),)), ("w", (1, 0, 0), (("v", "with"),)))
        slow, load = ((("a", None),), views), side(1, load=(4097, 0))[0]
        for web, reads in ((slow, ("a", "w")), (load, ("a", "s"))):
            self.check_4096(web, reads)
            for deed in (lambda: torn_at(web, reads, 3), lambda: check_whole(web, reads, ("torn", 0, 0, 0)),
                         lambda: check_whole(web, reads, None)):
                with self.assertRaises(TooGreat) as caught:
                    deed()
                self.assertEqual(caught.exception.most, 4096)
        self.assertEqual(whole_paper(load, ("a",)), ("whole", Stair.beat((4097, 0, 0))))

    def test_200_leaves(self):
        web = model_webs.broad(200)
        self.assertEqual(whole_paper(web, ("z",)), ("whole", Stair.shift(0)))
        self.assertEqual(check_whole(web, ("z",), ("whole", Stair.shift(0))), "whole")
        for web, reads in ((web, ("z", "a")), (model_webs.broad(201), ("z",))):
            for deed in self.all_deeds(web, reads, 0, None):
                with self.assertRaises(TooGreat) as caught:
                    deed()
                self.assertEqual(caught.exception.most, 200)

    def all_deeds(self, web, reads, moment, paper):
        return [lambda: whole_paper(web, reads), lambda: torn_share(web, reads), lambda: longest_torn(web, reads),
                lambda: next_torn(web, reads, moment), lambda: torn_at(web, reads, moment),
                lambda: check_whole(web, reads, paper)]

    def test_wrong_reads_come_first(self):
        for web in (WEB, model_webs.broad(201)):
            for reads, place in ((None, ()), ((), ()), (("z", "z"), None), (("a", "c", "a"), None), (("a", "a"), (1,))):
                for deed in self.all_deeds(web, reads, None, None):
                    with self.assertRaises(BadReads) as caught:
                        deed()
                    if place is not None:
                        self.assertEqual(caught.exception.place, place)

    def test_then_wrong_moments(self):
        slow = (WEB[0], (("v", (4097, 0, 0), (("a", "with"),)), ("w", (1, 0, 0), (("v", "with"),))))
        for web, reads in ((WEB, ("w",)), (model_webs.broad(201), ("z",)), (slow, ("w",)), side(1, 4096)):
            for moment in model.no_integers():
                for deed in (torn_at, next_torn):
                    with self.assertRaises(OutOfPlace):
                        deed(web, reads, moment)

    def test_200_comes_before_4096(self):
        tables, views = model_webs.broad(201)
        slow = tables, tuple((name, (4097 if name == "p" else 1, 0, 0), sources) for name, _, sources in views)
        for deed in self.all_deeds(slow, ("z",), 0, None):
            with self.assertRaises(TooGreat) as caught:
                deed()
            self.assertEqual(caught.exception.most, 200)

    def test_no_web(self):
        for thing in model.no_integers() + [0, ((None,), ())]:
            for deed in self.all_deeds(thing, None, None, None):
                with self.assertRaises(BadWeb):
                    deed()


if __name__ == "__main__":
    unittest.main()
