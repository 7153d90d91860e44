"""[30], [32], [35]: what a WEB is, the first fault that is told, the PATHs of a NAME, LIVE views."""

import unittest

from tests import model, model_webs
from viewstairs.errors import BadWeb, Missing, OutOfPlace, TooGreat
from viewstairs.webs import is_web, live_web, names_of, need_web, paths

A, B = ("a", None), ("b", (7, 1))
V = ("v", (5, 2, 1), (("a", "ahead"), ("b", "with")))
W = ("w", (3, 0, 0), (("v", "with"),))
WEB = ((A, B), (V, W))
MOST = 1000000


def no_strings():
    """Things of many kinds, none a string."""
    return [thing for thing in model.no_integers() if not isinstance(thing, str)] + [0, ("b",), ["with"], b"a"]


class Webs(unittest.TestCase):

    def check_web(self, web):
        self.assertIs(need_web(web), web)
        self.assertIs(is_web(web), True)

    def check_refused(self, thing, place):
        with self.assertRaises(BadWeb) as caught:
            need_web(thing)
        self.assertEqual(caught.exception.place, place)
        self.assertIs(type(caught.exception.place), tuple)
        self.assertIs(is_web(thing), False)

    def test_ordinary_ones(self):
        self.check_web(WEB)
        self.check_web(((A,), ()))
        for web in model_webs.chance_webs(1, 200):
            self.check_web(web)
        self.assertIs(need_web(thing=WEB), WEB)
        self.assertIs(is_web(thing=WEB), True)

    def test_the_ends_of_the_bounds(self):
        tables = tuple((name, None) for name in "abcdef")
        self.check_web((tables, ()))
        views = tuple((name, (1, 0, 0), (("a", "with"),)) for name in "stuvwxyz")
        self.check_web((tables, views))
        self.check_web(((A,), (("v", (MOST, MOST - 1, MOST), (("a", "with"),)),)))
        self.check_web(((A,), (("v", (1, 0, 0), (("a", "ahead"),)),)))
        for load in (None, (1, 0), (MOST, MOST - 1), (MOST, 0)):
            self.check_web(((("a", load),), ()))
        for name in ("a", "z", "abcdefgh", "zzzzzzzz"):
            self.check_web(((("b", None), (name, None)), ()))
        self.check_web((tables, (("v", (1, 0, 0), tuple((name, "with") for name in "fdba")),)))
        self.check_web(((A,), (("v", (1, 0, 0), (("a", "with"),)), ("w", (1, 0, 0), (("v", "with"), ("a", "ahead"))))))

    def test_form(self):
        tables = tuple((name, None) for name in "abcdefg")
        views = tuple((name, (1, 0, 0), (("a", "with"),)) for name in "rstuvwxyz")
        for thing in model.no_integers() + [0, (), (A,), ((A,),), ((A,), (), ()), [(A,), ()], ([A], ()), ((A,), []),
                                            ((), ()), (tables, ()), ((A,), views), (None, ()), ((A,), None),
                                            ("a", ()), ((A,), "v"), ({}, {}), (model.Hostile(), model.Hostile())]:
            self.check_refused(thing, ("form",))

    def test_form_comes_first(self):
        self.check_refused(((None,), None), ("form",))
        self.check_refused(((None,) * 7, ()), ("form",))
        self.check_refused(((None,), (None,) * 9), ("form",))
        self.check_refused(((None,) * 6, (None,) * 8), ("table", 0))

    def check_table(self, thing):
        self.check_refused(((thing,), ()), ("table", 0))
        self.check_refused(((A, thing), (V,)), ("table", 1))
        self.check_refused(((A, ("c", None), thing, thing), (None,)), ("table", 2))

    def test_tables(self):
        for thing in model.no_integers() + [0, "ab", ("b",), ("b", None, None), ["b", None], (None, "b")]:
            self.check_table(thing)

    def test_names_of_tables(self):
        for name in no_strings() + ["", "abcdefghi", "A", "aB", "a b", "a1", "a_", "a-", " a", "a\n", "`", "{", "3",
                                    "\u00e4", "\u00df", "\u0430"]:
            self.check_table((name, None))

    def test_loads(self):
        things = [thing for thing in model.no_integers() if thing is not None]
        for load in things + [0, 1, (1,), (1, 0, 0), [1, 0], (0, 0), (-1, 0), (MOST + 1, 0), (5, 5), (5, -1),
                              (MOST, MOST), (1, 1), (True, 0), (5, False), (5, None), (None, 0), ("5", 0), (5, "0"),
                              (10 ** 999, 0), (model.Hostile(), model.Hostile()), (5, model.Hostile())]:
            self.check_table(("b", load))

    def test_tables_with_the_same_name(self):
        self.check_refused(((A, A), ()), ("table", 1))
        self.check_refused(((A, B, ("a", (3, 0))), (V,)), ("table", 2))
        self.check_refused((tuple((name, None) for name in "abcdea"), ()), ("table", 5))

    def check_view(self, thing):
        self.check_refused(((A, B), (thing,)), ("view", 0))
        self.check_refused(((A, B), (V, thing)), ("view", 1))
        self.check_refused(((A, B), (V, W, thing, thing)), ("view", 2))

    def test_views(self):
        for thing in model.no_integers() + [0, "x", ("x",), V[:2], V + (None,), list(V), (V[1], V[0], V[2])]:
            self.check_view(thing)

    def test_names_of_views(self):
        for name in no_strings() + ["", "abcdefghi", "X", "x y", "x1", "\u00e9"]:
            self.check_view((name, (1, 0, 0), (("a", "with"),)))

    def test_beats(self):
        for beat in model.no_integers() + [0, (1, 0), (1, 0, 0, 0), [1, 0, 0], (0, 0, 0), (-1, 0, 0),
                                           (MOST + 1, 0, 0), (5, 5, 0), (5, -1, 0), (5, 0, -1), (5, 0, MOST + 1),
                                           (True, 0, 0), (5, False, 0), (5, 0, True), (None, 0, 0), (5, None, 0),
                                           (5, 0, None), ("5", 0, 0), (5, 5, model.Hostile())]:
            self.check_view(("x", beat, (("a", "with"),)))

    def test_sources(self):
        good = ("a", "with")
        for sources in model.no_integers() + [0, good, [good], (), (good, None), (None, good), (good, list(good)),
                                              (good, ("b",)), (good, ("b", "with", "with")), ("ab", "bc"),
                                              tuple((name, "with") for name in "abvwa")]:
            self.check_view(("x", (1, 0, 0), sources))
        five = tuple((name, "with") for name in "abcde")
        tables = tuple((name, None) for name in "abcde")
        self.check_refused((tables, (("x", (1, 0, 0), five),)), ("view", 0))
        self.check_web((tables, (("x", (1, 0, 0), five[:4]),)))

    def test_names_of_sources(self):
        for name in model.no_integers() + [0, "c", "x", "", "A", "av", "y", ("a",)]:
            self.check_view(("x", (1, 0, 0), ((name, "with"),)))
            self.check_view(("x", (1, 0, 0), (("a", "with"), (name, "ahead"))))
        self.check_view(("x", (1, 0, 0), (("a", "with"), ("a", "with"))))
        self.check_view(("x", (1, 0, 0), (("a", "with"), ("b", "with"), ("a", "ahead"))))

    def test_modes(self):
        for mode in no_strings() + ["", "WITH", "with ", "behind", "aheadwith", "w"]:
            self.check_view(("x", (1, 0, 0), (("a", mode),)))
            self.check_view(("x", (1, 0, 0), (("a", "with"), ("b", mode))))

    def test_views_read_what_is_ahead_of_them(self):
        v, w = ("v", (1, 0, 0), (("w", "ahead"),)), ("w", (1, 0, 0), (("a", "with"),))
        self.check_refused(((A,), (v, w)), ("view", 0))
        self.check_web(((A,), (w, v)))
        self.check_refused(((A,), (("v", (1, 0, 0), (("v", "ahead"),)),)), ("view", 0))
        self.check_refused(((A,), (w, ("v", (1, 0, 0), (("a", "with"), ("v", "ahead"))))), ("view", 1))

    def test_views_with_a_name_that_is_there(self):
        self.check_refused(((A, B), (V, V)), ("view", 1))
        self.check_refused(((A, B), (V, ("a", (1, 0, 0), (("b", "with"),)))), ("view", 1))
        self.check_refused(((A, B), (("b", (1, 0, 0), (("a", "with"),)),)), ("view", 0))
        self.check_refused(((A, B), (V, W, ("v", (1, 0, 0), (("a", "with"),)))), ("view", 2))

    def test_tables_come_before_views(self):
        self.check_refused(((A, None), (None,)), ("table", 1))
        self.check_refused(((A, B), (None, None)), ("view", 0))
        self.check_refused(((A, B), (V, None, V)), ("view", 1))

    def test_lists_are_no_tuples(self):
        self.check_refused(((A, B), (("v", (5, 2, 1), [("a", "with")]),)), ("view", 0))
        self.check_refused(((A, B), (("v", (5, 2, 1), (["a", "with"],)),)), ("view", 0))
        self.check_refused(((A, B), (("v", [5, 2, 1], (("a", "with"),)),)), ("view", 0))

    def test_all_calls_refuse_what_is_no_web(self):
        for thing in model.no_integers() + [0, ((A, A), ()), ((A,), (V,))]:
            for deed in (lambda: names_of(thing), lambda: paths(thing, "a"), lambda: live_web(thing, ()),
                         lambda: paths(thing, None), lambda: live_web(thing, None)):
                with self.assertRaises(BadWeb):
                    deed()


class Names(unittest.TestCase):

    def test_tables_and_then_views(self):
        self.assertEqual(names_of(WEB), ("a", "b", "v", "w"))
        self.assertEqual(names_of(web=((B, A), ())), ("b", "a"))
        views = (("y", (1, 0, 0), (("m", "with"),)), ("b", (1, 0, 0), (("y", "with"),)))
        self.assertEqual(names_of(((("z", None), ("m", None)), views)), ("z", "m", "y", "b"))


class Paths(unittest.TestCase):

    def test_a_table(self):
        self.assertEqual(paths(WEB, "a"), (("a",),))
        self.assertEqual(paths(web=WEB, name="b"), (("b",),))

    def test_views(self):
        self.assertEqual(paths(WEB, "v"), (("v", "a"), ("v", "b")))
        self.assertEqual(paths(WEB, "w"), (("w", "v", "a"), ("w", "v", "b")))

    def test_in_the_order_of_the_sources(self):
        x = ("x", (1, 0, 0), (("b", "with"), ("w", "ahead"), ("a", "with"), ("v", "with")))
        self.assertEqual(paths(((A, B), (V, W, x)), "x"),
                         (("x", "b"), ("x", "w", "v", "a"), ("x", "w", "v", "b"), ("x", "a"), ("x", "v", "a"),
                          ("x", "v", "b")))

    def test_against_the_definition(self):
        for web in model_webs.chance_webs(2, 200):
            for name in names_of(web):
                self.assertEqual(paths(web, name), tuple(model_webs.routes(web, name)))

    def test_200_of_them(self):
        web = model_webs.broad(200)
        found = paths(web, "z")
        self.assertEqual((len(found), len(set(found))), (200, 200))
        self.assertEqual(found, tuple(model_webs.routes(web, "z")))
        web = model_webs.broad(201)
        with self.assertRaises(TooGreat) as caught:
            paths(web, "z")
        self.assertEqual(caught.exception.most, 200)
        self.assertEqual(len(paths(web, "v")), 146)

    def test_the_most_that_a_web_has(self):
        names, views = list("abcdef"), []
        for name in "stuvwxyz":
            views.append((name, (1, 0, 0), tuple((source, "with") for source in names[:-5:-1])))
            names.append(name)
        web = (tuple((name, None) for name in "abcdef"), tuple(views))
        self.assertEqual(len(paths(web, "y")), 181)
        with self.assertRaises(TooGreat):
            paths(web, "z")

    def test_missing(self):
        for name in model.no_integers() + [0, "c", "", "V", "x", "vw", ("a",), ("v", "a")]:
            with self.assertRaises(Missing) as caught:
                paths(WEB, name)
            self.assertIs(caught.exception.name, name)


class LiveWebs(unittest.TestCase):

    def test_some_views(self):
        live = ("v", (1, 0, 0), (("a", "ahead"), ("b", "with")))
        self.assertEqual(live_web(WEB, ("v",)), ((A, B), (live, W)))
        self.assertEqual(live_web(web=WEB, names=("w",)), ((A, B), (V, ("w", (1, 0, 0), (("v", "with"),)))))
        for names in (("v", "w"), ("w", "v")):
            self.assertEqual(live_web(WEB, names), ((A, B), (live, ("w", (1, 0, 0), (("v", "with"),)))))

    def test_none(self):
        self.assertEqual(live_web(WEB, ()), WEB)
        self.assertEqual(live_web(((A,), ()), ()), ((A,), ()))

    def test_all_eight(self):
        views = tuple((name, (5, 1, 2), (("a", "with"),)) for name in "stuvwxyz")
        for beats in live_web(((A,), views), tuple("zyxwvuts"))[1]:
            self.assertEqual(beats[1], (1, 0, 0))

    def test_the_web_is_left_as_it_was(self):
        before = repr(WEB)
        live = live_web(WEB, ("v", "w"))
        self.assertIs(is_web(live), True)
        self.assertEqual(repr(WEB), before)

    def test_refused(self):
        things = [thing for thing in model.no_integers() if not isinstance(thing, tuple)]
        for names in things + [0, (3,), (None,), "v", ["v"], {"v"}, ("a",), ("x",), ("",), ("v", "v"),
                               ("v", "w", "v"), ("v", "a"), ("v", None), (None, "v"), ("v", model.Hostile()),
                               (model.Hostile(), "v"), (("v",),), ("V",), (["v"],), ("v", "w", "x")]:
            with self.assertRaises(OutOfPlace):
                live_web(WEB, names)


if __name__ == "__main__":
    unittest.main()
