"""[31], [33], [34], [50]: what PATHs show up to when, SPANs, READS and LEAVES."""

import unittest

from tests import model, model_webs
from viewstairs.errors import BadReads, BadWeb, OutOfPlace, TooGreat
from viewstairs.paths import leaves, lower_stair, need_reads, path_stair, span
from viewstairs.stairs import Stair
from viewstairs.webs import names_of, paths

V = ("v", (5, 2, 1), (("a", "ahead"), ("b", "with")))
W = ("w", (3, 0, 0), (("v", "with"), ("a", "with")))
WEB = ((("a", None), ("b", (7, 1))), (V, W))
GREAT = 10 ** 999
SOME = model_webs.chance_webs(11, 120) + model_webs.chance_webs(12, 12, 7, 20, 3)


def chain(*periods, load=None):
    """A WEB of one table and a row of views, each of which reads the one ahead, and the PATH of the last view.

    The first one of the periods is that of the first view of the PATH.
    """
    names, views, ahead = "stuvwxyz", [], "a"
    for name, period in zip(names, periods[::-1]):
        views.append((name, (period, period - 1, 0), ((ahead, "with"),)))
        ahead = name
    return ((("a", load),), tuple(views)), tuple(names[:len(views)][::-1]) + ("a",)


def wrong_paths():
    """Things of many kinds, none a PATH of WEB."""
    return model.no_integers() + [0, "a", "v", ["a"], ["v", "a"], ("v",), ("w",), ("w", "v"), ("c",), ("",), ("A",),
                                  ("a", "a"), ("b", "a"), ("a", "v"), ("v", "c"), ("v", "a", "a"), ("v", "b", "a"),
                                  ("w", "b"), ("w", "v", "v", "a"), ("w", "w", "a"), ("v", "w", "a"), (None, "a"),
                                  ("v", None), ("v", model.Hostile()), (model.Hostile(), "a"), (model.Hostile(),),
                                  (("v", "a"),), ("v", ("a",)), ("v", ["a"]), (["v"], "a"), ("va",), ("", "a"),
                                  ("x", "a"), ("c", "a"), ("v",) * 1000, (1, 2)]


class PathStairs(unittest.TestCase):

    def test_webs_as_they_run(self):
        for web in SOME:
            stairs = {path: path_stair(web, path) for name in names_of(web) for path in paths(web, name)}
            for moment, shown in model_webs.run(web, -12, 30):
                self.assertEqual({path: stair(moment) for path, stair in stairs.items()}, shown, (web, moment))

    def test_a_table_shows_each_moment(self):
        for name in "ab":
            self.assertEqual(path_stair(WEB, (name,)), Stair.shift(0))

    def test_one_view(self):
        self.assertEqual(path_stair(WEB, ("v", "b")), Stair.beat((5, 2, 1)))
        self.assertEqual(path_stair(WEB, ("v", "a")), Stair.beat((5, 2, 1)) - 1)
        self.assertEqual(path_stair(web=WEB, path=("w", "a")), Stair.beat((3, 0, 0)))

    def test_views_of_views(self):
        self.assertEqual(path_stair(WEB, ("w", "v", "b")), Stair.beat((5, 2, 1)) * Stair.beat((3, 0, 0)))
        self.assertEqual(path_stair(WEB, ("w", "v", "a")), Stair.beat((5, 2, 1)) * Stair.beat((3, 0, 0)) - 1)
        ahead = ("w", (3, 0, 0), (("v", "ahead"),))
        self.assertEqual(path_stair((WEB[0], (V, ahead)), ("w", "v", "a")),
                         Stair.beat((5, 2, 1)) * (Stair.beat((3, 0, 0)) - 1) - 1)

    def test_eight_views(self):
        web, path = chain(2, 3, 1, 4, 6, 2, 3, 12)
        self.assertEqual(len(path), 9)
        stair = path_stair(web, path)
        for moment, shown in model_webs.run(web, -5, 20):
            self.assertEqual(stair(moment), shown[path])

    def test_great_beats(self):
        most = 1000000
        web = ((("a", (most, 5)),), (("v", (most, most - 1, most), (("a", "ahead"),)),))
        self.assertEqual(path_stair(web, ("v", "a")), Stair.beat((most, most - 1, most)) - 1)
        self.assertEqual(path_stair(web, ("v", "a"))(3 * most), 2 * most - 2)

    def test_4096_steps(self):
        web, path = chain(1, 4096)
        self.assertEqual(path_stair(web, path), Stair(4096, ((4095, 4095),)))
        for periods in ((1, 4097), (3, 2, 12291 * 2), (2, 1, 8194), (4095, 4097), (1, 1000000)):
            web, path = chain(*periods)
            with self.assertRaises(TooGreat) as caught:
                path_stair(web, path)
            self.assertEqual(caught.exception.most, 4096)

    def test_the_last_view_may_have_any_period(self):
        for periods in ((1000000,), (1000000, 1), (1000000, 1, 1000000), (4097, 1, 1, 4097)):
            web, path = chain(*periods)
            self.assertEqual(path_stair(web, path)(0), -1)

    def test_4096_steps_of_a_stair(self):
        web, path = chain(4097, 4096)
        stair = path_stair(web, path)
        self.assertEqual((len(stair), stair.period), (4096, 4096 * 4097))
        for moment in (0, 4096, 4097, 70000, -70000, 4096 * 4097):
            self.assertEqual(stair(moment), Stair.beat((4096, 4095, 0))(Stair.beat((4097, 4096, 0))(moment)))
        web, path = chain(4098, 4097)
        with self.assertRaises(TooGreat):
            path_stair(web, path)

    def test_it_is_put_together_from_the_left(self):
        # From the right the last two would be refused.
        web, path = chain(4097, 1, 4097)
        self.assertEqual(path_stair(web, path), Stair.beat((4097, 4096, 0)))
        with self.assertRaises(TooGreat):
            path_stair(web, path[1:])

    def test_a_path_of_what_has_too_many(self):
        web = model_webs.broad(201)
        for path in list(model_webs.routes(web, "z"))[::50]:
            self.assertEqual(path_stair(web, path), Stair.shift(0))
            self.assertEqual(lower_stair(web, path), Stair.shift(0))
            self.assertEqual(span(web, path, 7), (7, 7))

    def test_refused(self):
        for path in wrong_paths():
            with self.assertRaises(OutOfPlace):
                path_stair(WEB, path)
        for thing in model.no_integers() + [0, ((None,), ()), WEB[0]]:
            with self.assertRaises(BadWeb):
                path_stair(thing, ("a",))
            with self.assertRaises(BadWeb):
                path_stair(thing, None)


class LowerStairs(unittest.TestCase):

    def test_against_the_definition(self):
        for web in SOME:
            loads = dict(web[0])
            lowers = {path: lower_stair(web, path) for name in names_of(web) for path in paths(web, name)}
            for moment, shown in model_webs.run(web, -12, 20):
                for path, lower in lowers.items():
                    self.assertEqual(lower(moment), model_webs.span_at(loads[path[-1]], shown[path])[0])

    def test_plain_ones(self):
        self.assertEqual(lower_stair(WEB, ("a",)), Stair.shift(0))
        self.assertEqual(lower_stair(WEB, ("b",)), Stair.beat((7, 1, 0)))
        self.assertEqual(lower_stair(WEB, ("v", "a")), path_stair(WEB, ("v", "a")))
        self.assertEqual(lower_stair(web=WEB, path=("v", "b")), Stair.beat((7, 1, 0)) * Stair.beat((5, 2, 1)))

    def test_4096_steps(self):
        web, path = chain(1, load=(4096, 5))
        self.assertEqual(lower_stair(web, path), Stair.beat((4096, 5, 0)))
        web, path = chain(1, load=(4097, 5))
        self.assertEqual(path_stair(web, path), Stair.shift(0))
        with self.assertRaises(TooGreat) as caught:
            lower_stair(web, path)
        self.assertEqual(caught.exception.most, 4096)

    def test_a_table_by_itself_is_never_refused(self):
        for period in (4096, 4097, 1000000):
            self.assertEqual(lower_stair(((("a", (period, 3)),), ()), ("a",)), Stair.beat((period, 3, 0)))

    def test_refused(self):
        for path in wrong_paths():
            with self.assertRaises(OutOfPlace):
                lower_stair(WEB, path)
        for thing in model.no_integers() + [0, ((None,), ())]:
            with self.assertRaises(BadWeb):
                lower_stair(thing, None)
        web, path = chain(1, 4097)
        with self.assertRaises(TooGreat):
            lower_stair(web, path)


class Spans(unittest.TestCase):

    def test_against_the_definition(self):
        for web in SOME:
            loads = dict(web[0])
            for moment, shown in model_webs.run(web, -4, 8):
                for path, seen in shown.items():
                    self.assertEqual(span(web, path, moment), model_webs.span_at(loads[path[-1]], seen))

    def test_plain_ones(self):
        self.assertEqual(span(WEB, ("a",), 9), (9, 9))
        self.assertEqual(span(WEB, ("v", "a"), 9), (6, 6))
        self.assertEqual([span(WEB, ("b",), t) for t in (0, 1, 7, 8)], [(-6, 0), (1, 7), (1, 7), (8, 14)])
        self.assertEqual(span(web=WEB, path=("v", "b"), moment=9), (1, 7))

    def test_a_load_at_each_moment(self):
        web = ((("a", (1, 0)),), ())
        self.assertEqual(span(web, ("a",), -5), (-5, -5))

    def test_great_moments(self):
        self.assertEqual(span(WEB, ("a",), GREAT), (GREAT, GREAT))
        moment = 35 * GREAT
        self.assertEqual(span(WEB, ("v", "b"), moment + 9), (moment + 1, moment + 7))
        self.assertEqual(span(WEB, ("b",), -moment), (-moment - 6, -moment))

    def test_a_load_is_never_too_great(self):
        web, path = chain(1, load=(4097, 5))
        self.assertEqual(span(web, path, 4102), (4102, 8198))
        self.assertEqual(span(((("a", (1000000, 5)),), ()), ("a",), 4), (5 - 1000000, 4))

    def test_refused(self):
        for path in wrong_paths():
            for moment in (9, None):
                with self.assertRaises(OutOfPlace):
                    span(WEB, path, moment)
        for moment in model.no_integers():
            with self.assertRaises(OutOfPlace):
                span(WEB, ("v", "b"), moment)
        with self.assertRaises(BadWeb):
            span(None, None, None)

    def test_what_is_too_great_comes_last(self):
        web, path = chain(1, 4097)
        with self.assertRaises(TooGreat) as caught:
            span(web, path, 9)
        self.assertEqual(caught.exception.most, 4096)
        for wrong, moment in ((path, None), (path, True), (path[:1], 9), (None, None)):
            with self.assertRaises(OutOfPlace):
                span(web, wrong, moment)


class Reads(unittest.TestCase):

    def check_refused(self, thing, place):
        for deed in (need_reads, leaves):
            with self.assertRaises(BadReads) as caught:
                deed(WEB, thing)
            self.assertEqual(caught.exception.place, place)

    def test_ordinary_ones(self):
        for thing in (("a",), ("w",), ("w", "a", "v", "b"), ("b", "a")):
            self.assertIs(need_reads(WEB, thing), thing)
        thing = ("v",)
        self.assertIs(need_reads(web=WEB, thing=thing), thing)

    def test_six_and_seven(self):
        web = (tuple((name, None) for name in "abcdef"), (("v", (1, 0, 0), (("a", "with"),)),))
        self.assertEqual(need_reads(web, tuple("vedcba")), tuple("vedcba"))
        for thing in (tuple("vfedcba"), tuple("aaaaaaa"), (None,) * 7):
            with self.assertRaises(BadReads) as caught:
                need_reads(web, thing)
            self.assertEqual(caught.exception.place, ())
        with self.assertRaises(BadReads) as caught:
            need_reads(web, (None,) * 6)
        self.assertEqual(caught.exception.place, (0,))

    def test_no_tuple_of_1_to_6(self):
        for thing in model.no_integers():
            if not isinstance(thing, tuple):
                self.check_refused(thing, ())
        for thing in (0, (), "a", ["a"], {"a"}, {"a": 1}, ("a", "b", "v", "w", "a", "b", "v")):
            self.check_refused(thing, ())

    def test_no_names(self):
        for thing in model.no_integers() + [0, "c", "", "A", "av", ("a",), "x"]:
            self.check_refused((thing,), (0,))
            self.check_refused(("a", thing), (1,))
            self.check_refused(("a", "w", thing, thing, "v"), (2,))

    def test_there_twice(self):
        self.check_refused(("a", "a"), (1,))
        self.check_refused(("w", "a", "v", "w"), (3,))
        self.check_refused(("a", "b", "b", "a"), (2,))

    def test_the_first_fault(self):
        self.check_refused(("a", "c", "a"), (1,))
        self.check_refused(("a", "a", "c"), (1,))
        self.check_refused(("c", "c"), (0,))

    def test_no_web(self):
        for thing in model.no_integers() + [0, ((None,), ())]:
            for deed in (need_reads, leaves):
                with self.assertRaises(BadWeb):
                    deed(thing, None)


class Leaves(unittest.TestCase):

    def test_in_order(self):
        self.assertEqual(leaves(WEB, ("w",)), (("w", "v", "a"), ("w", "v", "b"), ("w", "a")))
        self.assertEqual(leaves(web=WEB, reads=("b", "v", "a")), (("b",), ("v", "a"), ("v", "b"), ("a",)))
        for web in SOME:
            names = names_of(web)[::-1][:6]
            self.assertEqual(leaves(web, names), tuple(path for name in names for path in paths(web, name)))

    def test_200_of_them(self):
        self.assertEqual(len(leaves(model_webs.broad(200), ("z",))), 200)
        web = model_webs.broad(201)
        self.assertEqual(len(leaves(web, ("v", "t", "r", "a", "p"))), 200)
        for web, reads in ((web, ("z",)), (web, ("v", "t", "r", "a", "p", "b")), (web, ("v", "u")),
                           (model_webs.broad(200), ("z", "a")), (model_webs.broad(200), ("a", "z"))):
            with self.assertRaises(TooGreat) as caught:
                leaves(web, reads)
            self.assertEqual(caught.exception.most, 200)

    def test_wrong_reads_come_first(self):
        with self.assertRaises(BadReads):
            leaves(model_webs.broad(201), ("z", "z"))


if __name__ == "__main__":
    unittest.main()
