"""[60]: WEBs of the same SHAPE, READS that show the SAME in both, and where they PART."""

import random
import unittest

from tests import model, model_webs
from viewstairs.alike import are_same, parting
from viewstairs.errors import BadReads, BadWeb, OutOfPlace, TooGreat
from viewstairs.paths import leaves, span
from viewstairs.webs import live_web, names_of

V, W = ("v", (3, 0, 0), (("a", "with"),)), ("w", (2, 0, 0), (("v", "with"), ("b", "with")))
WEB = ((("a", None), ("b", None)), (V, W))
# All PERIODs up to 5 divide it.
ALL = 60


def one_view(period, load=None, offset=0, takes=0, mode="with"):
    """A WEB of a table and of a view of it."""
    return (("a", load),), (("v", (period, offset, takes), (("a", mode),)),)


def chain(*periods):
    """A WEB of a table and of views, each of which reads the one ahead."""
    names = ["a", *"stuvwxyz"[:len(periods)]]
    views = [(name, (period, 0, 0), ((ahead, "with"),)) for ahead, name, period in zip(names, names[1:], periods)]
    return (("a", None),), tuple(views)


def changed(chance, web):
    """A WEB of the same SHAPE."""
    views = []
    for name, beat, sources in web[1]:
        if chance.random() < 0.4:
            period = chance.randint(1, 5)
            beat = (period, chance.randrange(period), chance.randint(0, 4))
        if chance.random() < 0.2:
            sources = tuple((source, chance.choice(("with", "ahead"))) for source, _ in sources)
        views.append((name, beat, sources))
    return web[0], tuple(views)


def parted(web, other, reads):
    """Where READS PART, by running both WEBs."""
    for (moment, one), (_, two) in zip(model_webs.run(web, 0, ALL), model_webs.run(other, 0, ALL)):
        rows = list(zip(model_webs.spans_at(web, reads, one), model_webs.spans_at(other, reads, two)))
        for index, (here, there) in enumerate(rows):
            if here != there:
                return moment, index
    return None


class Alike(unittest.TestCase):

    def check(self, web, other, reads, wanted):
        for left, right in ((web, other), (other, web)):
            self.assertEqual(parting(left, right, reads), wanted)
            self.assertIs(are_same(left, right, reads), wanted is None)

    def test_webs_as_they_run(self):
        chance = random.Random(81)
        found = []
        for web in model_webs.chance_webs(81, 100) + model_webs.slow_webs(82, 150):
            other, reads = changed(chance, web), model_webs.chance_reads(chance, web)
            found.append(parted(web, other, reads))
            self.check(web, other, reads, found[-1])
        self.assertGreater(found.count(None), 50)
        self.assertGreater(len({pair for pair in found if pair}), 12)

    def test_the_example(self):
        one, other = one_view(2), one_view(3)
        self.check(one, other, ("v",), (2, 0))
        self.check(one, other, ("a",), None)
        self.assertEqual(parting(web=one, other=other, reads=("v",)), (2, 0))
        self.assertIs(are_same(reads=("v",), other=other, web=one), False)

    def test_the_first_leaf_of_several(self):
        one, other = one_view(2), one_view(3)
        self.check(one, other, ("a", "v"), (2, 1))
        tables = (("a", None), ("b", None))
        one = tables, (("v", (9, 0, 0), (("a", "with"), ("b", "with"))), ("w", (9, 0, 0), (("b", "with"),)))
        later = tables, (("v", (9, 0, 0), (("a", "with"), ("b", "ahead"))), ("w", (9, 8, 0), (("b", "with"),)))
        self.check(one, later, ("w", "v"), (0, 0))
        self.check(one, later, ("v",), (0, 1))
        late = tables, (("v", (9, 0, 2), (("a", "with"), ("b", "with"))), ("w", (9, 0, 1), (("b", "with"),)))
        self.check(one, late, ("v", "w"), (0, 0))
        later, last = (9, 3, 0), (9, 3, 1)
        one = tables, (("v", later, (("a", "with"),)), ("w", (9, 2, 0), (("b", "with"),)))
        other = tables, (("v", last, (("a", "with"),)), ("w", (9, 2, 1), (("b", "with"),)))
        self.check(one, other, ("v", "w"), (2, 1))
        self.check(one, other, ("w", "v"), (2, 0))

    def test_equal_webs(self):
        for web in model_webs.chance_webs(83, 40):
            self.check(web, web, names_of(web)[:6], None)

    def test_unlike_stairs_with_equal_spans(self):
        self.check(one_view(2, (6, 0)), one_view(3, (6, 0)), ("v",), None)
        self.check(one_view(2, (6, 1)), one_view(3, (6, 1)), ("v",), (2, 0))
        self.check(one_view(1, (4, 0), 0, 0, "ahead"), one_view(1, (4, 0)), ("v",), (0, 0))

    def test_live_views(self):
        web = (("a", (6, 0)), ("b", None)), (V, W)
        self.check(web, live_web(web, ("v",)), ("w", "v"), None)
        self.check(web, live_web(web, ("w",)), ("w", "v"), (1, 1))
        self.check(web, live_web(web, ("w",)), ("v",), None)

    def test_great_beats(self):
        most = 1000000
        one, other = one_view(most, None, most - 1), one_view(most, None, most - 1, most)
        self.check(one, other, ("v",), (0, 0))
        self.check(one_view(most, None, 2), one_view(most, None, 3), ("v",), (0, 0))
        self.check(one_view(most, None, 2, most - 3), one_view(most, None, 2, most - 2), ("v",), (most - 1, 0))
        self.check(one_view(4094, None, 7), one_view(1), ("v",), (0, 0))

    def test_the_first_moment_is_that_of_spans(self):
        chance = random.Random(84)
        for web in model_webs.chance_webs(84, 60):
            other, reads = changed(chance, web), names_of(web)[-1:]
            pair = parting(web, other, reads)
            if pair is not None:
                moment, index = pair
                routes = leaves(web, reads)
                rows = [[span(one, path, moment) for path in routes] for one in (web, other)]
                self.assertEqual([here == there for here, there in zip(*rows)].index(False), index)
                for path in routes:
                    for earlier in range(max(0, moment - 20), moment):
                        self.assertEqual(span(web, path, earlier), span(other, path, earlier))


class Bounds(unittest.TestCase):

    def check_4096(self, web, other, reads):
        for deed in (parting, are_same):
            for left, right in ((web, other), (other, web)):
                with self.assertRaises(TooGreat) as caught:
                    deed(left, right, reads)
                self.assertEqual(caught.exception.most, 4096)

    def test_as_first_unlike(self):
        self.assertEqual(parting(one_view(4095), one_view(1), ("v",)), (1, 0))
        self.check_4096(one_view(4096), one_view(1), ("v",))
        self.check_4096(one_view(1000000), one_view(999999), ("v",))
        self.assertIsNone(parting(one_view(1000000), one_view(1000000), ("v",)))

    def test_all_leaves_are_compared(self):
        views = (("v", (1, 0, 0), (("a", "with"),)), ("w", (1, 0, 0), (("a", "with"),)))
        one = (("a", None),), views
        early = (("a", None),), (("v", (1, 0, 1), (("a", "with"),)), ("w", (4096, 0, 0), (("a", "with"),)))
        self.assertEqual(parting(one, early, ("v",)), (0, 0))
        self.check_4096(one, early, ("v", "w"))
        self.check_4096(one, early, ("w", "v"))

    def test_as_lower_stair(self):
        self.assertEqual(parting(chain(4095, 1), chain(1, 1), ("t",)), (1, 0))
        self.assertIsNone(parting(chain(4096, 1), chain(4096, 1), ("t",)))
        self.check_4096(chain(1, 1), chain(4097, 1), ("t",))
        self.check_4096(chain(4097, 1), chain(4097, 1), ("t",))
        self.check_4096(one_view(1, (4097, 0)), one_view(1, (4097, 0)), ("a", "v"))
        self.assertIsNone(parting(one_view(1, (4097, 0)), one_view(2, (4097, 0)), ("a",)))

    def test_200_leaves(self):
        web = model_webs.broad(200)
        self.assertIsNone(parting(web, web, ("z",)))
        self.assertIsNone(parting(web, live_web(web, ("z",)), ("z",)))
        for web, reads in ((web, ("z", "a")), (model_webs.broad(201), ("z",))):
            for deed in (parting, are_same):
                with self.assertRaises(TooGreat) as caught:
                    deed(web, web, reads)
                self.assertEqual(caught.exception.most, 200)

    def test_200_comes_before_4096(self):
        web = model_webs.broad(201)
        slow = web[0], tuple((name, (4097 if name == "p" else 1, 0, 0), sources) for name, _, sources in web[1])
        for left, right in ((web, slow), (slow, web), (slow, slow)):
            with self.assertRaises(TooGreat) as caught:
                parting(left, right, ("z",))
            self.assertEqual(caught.exception.most, 200)


class Refused(unittest.TestCase):

    def check_shape(self, web, other):
        for deed in (parting, are_same):
            for left, right in ((web, other), (other, web)):
                for reads in (("a",), None):
                    with self.assertRaises(OutOfPlace):
                        deed(left, right, reads)

    def test_unlike_shapes(self):
        a, b = WEB[0]
        for other in ((WEB[0], ()), (WEB[0], (V,)), (WEB[0], (W[:2] + ((("a", "with"), ("b", "with")),),)),
                      ((b, a), (V, W)), ((a, ("b", (5, 0))), (V, W)), ((a, b, ("c", None)), (V, W)),
                      (WEB[0], (("x",) + V[1:], ("w", (2, 0, 0), (("x", "with"), ("b", "with"))))),
                      (WEB[0], (V, ("x",) + W[1:])),
                      (WEB[0], (V, ("w", (2, 0, 0), (("b", "with"), ("v", "with"))))),
                      (WEB[0], (V, ("w", (2, 0, 0), (("v", "with"),)))),
                      (WEB[0], (V, ("w", (2, 0, 0), (("v", "with"), ("a", "with"))))),
                      (WEB[0], (V, W, ("x", (2, 0, 0), (("v", "with"),))))):
            self.check_shape(WEB, other)
        self.check_shape(one_view(2, (5, 0)), one_view(2, (5, 1)))

    def test_views_in_another_order(self):
        x, y = ("x", (2, 0, 0), (("a", "with"),)), ("y", (2, 0, 0), (("a", "with"),))
        self.check_shape(((("a", None),), (x, y)), ((("a", None),), (y, x)))

    def test_no_webs(self):
        for thing in model.no_integers() + [0, ((None,), ()), (WEB[0],)]:
            for deed in (parting, are_same):
                for web, other in ((thing, WEB), (WEB, thing), (thing, None), (thing, thing)):
                    for reads in (("a",), None):
                        with self.assertRaises(BadWeb):
                            deed(web, other, reads)

    def test_the_web_is_checked_first(self):
        for web, other, place in ((((None,), ()), None, ("table", 0)), (None, ((None,), ()), ("form",)),
                                  (WEB, ((("a", None),), (None,)), ("view", 0))):
            with self.assertRaises(BadWeb) as caught:
                parting(web, other, None)
            self.assertEqual(caught.exception.place, place)

    def test_wrong_reads(self):
        big = model_webs.broad(201)
        for web in (WEB, big):
            for deed in (parting, are_same):
                for reads, place in ((None, ()), ((), ()), (["a"], ()), (("a", "k"), (1,)), (("a", "a"), (1,)),
                                     (("a", None), (1,)), ((model.Hostile(),), (0,))):
                    with self.assertRaises(BadReads) as caught:
                        deed(web, web, reads)
                    self.assertEqual(caught.exception.place, place)
        with self.assertRaises(BadReads):
            parting(big, big, ("z", "z"))


if __name__ == "__main__":
    unittest.main()
