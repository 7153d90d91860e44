"""[70], with [35] and [51]: USED views, LIVE SETs and their certificates."""

import itertools
import random
import unittest

from tests import model, model_webs
from viewstairs.errors import BadPaper, BadReads, BadWeb, TooGreat
from viewstairs.lives import check_live, live_paper, used_views
from viewstairs.moments import check_whole, whole_paper
from viewstairs.paths import leaves
from viewstairs.stairs import Stair
from viewstairs.webs import live_web, names_of

V, W = ("v", (3, 0, 0), (("a", "with"),)), ("w", (2, 0, 0), (("v", "with"), ("b", "with")))
WEB = ((("a", None), ("b", None)), (V, W))
# A WEB whose READS are TORN whatever is LIVE.
AHEAD = (WEB[0], (("v", (1, 0, 0), (("a", "ahead"),)), ("w", (2, 0, 0), (("v", "with"), ("a", "with")))))
TOLD = ("live", ("v",), ((2, 1, 0),))
# All PERIODs up to 5 divide it.
ALL = 60


def all_sets(used):
    """All sets of USED views in order."""
    for many in range(len(used) + 1):
        yield from itertools.combinations(used, many)


def first_torn(web, names, reads):
    """T, I and J of [51] with these views LIVE, by running the WEB, or None."""
    views = tuple((name, (1, 0, 0) if name in names else beat, sources) for name, beat, sources in web[1])
    web = web[0], views
    for moment, shown in model_webs.run(web, 0, ALL):
        pair = model_webs.torn_pair(model_webs.spans_at(web, reads, shown))
        if pair is not None:
            return (moment,) + pair
    return None


def paper_of(web, reads, used):
    """The certificate of [70], by running all WEBs."""
    rows = {}
    for names in all_sets(used):
        rows[names] = first_torn(web, names, reads)
        if rows[names] is None:
            return "live", names, tuple(row for other, row in rows.items() if len(other) < len(names))
    return "none", tuple(rows.values())


def side(*periods, load=None):
    """A WEB of one table and of views beside each other, and the NAMEs of these."""
    names = tuple("stuvwxyz"[:len(periods)])
    views = tuple((name, (period, 0, 0), (("a", "with"),)) for name, period in zip(names, periods))
    return ((("a", load),), views), names


def chain(*beats):
    """A WEB of a table and of views, each of which reads the one ahead."""
    names = ["a", *"stuvwxyz"[:len(beats)]]
    views = [(name, beat, ((ahead, "with"),)) for ahead, name, beat in zip(names, names[1:], beats)]
    return (("a", None),), tuple(views)


def unloaded(web):
    """The WEB without LOADs, and with all read "with": with all views LIVE it shows each MOMENT."""
    views = [(name, beat, tuple((source, "with") for source, _ in sources)) for name, beat, sources in web[1]]
    return tuple((name, None) for name, _ in web[0]), tuple(views)


def cases(seed, webs):
    chance = random.Random(seed)
    for web in webs:
        yield web, chance.choice((web[1][-1][:1], model_webs.chance_reads(chance, web)))


CASES = list(cases(91, model_webs.chance_webs(91, 60, 5, 4, 3)))
CASES += list(cases(92, model_webs.slow_webs(92, 80)))
CASES += list(cases(93, [unloaded(web) for web in model_webs.chance_webs(93, 20, 4, 1, 4)]))


class Used(unittest.TestCase):

    def test_ordinary_ones(self):
        self.assertEqual(used_views(WEB, ("w",)), ("v", "w"))
        self.assertEqual(used_views(WEB, ("v",)), ("v",))
        self.assertEqual(used_views(WEB, ("a", "b")), ())
        self.assertEqual(used_views(reads=("w", "v"), web=WEB), ("v", "w"))
        self.assertEqual(used_views(WEB, ("b", "v", "a")), ("v",))

    def test_in_the_order_of_the_views(self):
        web, names = side(*[1] * 8)
        self.assertEqual(used_views(web, names[5::-1]), names[:6])
        self.assertEqual(used_views(web, ("y", "a", "t")), ("t", "y"))

    def test_against_the_definition(self):
        for web, reads in CASES:
            used = {name for path in leaves(web, reads) for name in path[:-1]}
            self.assertEqual(used_views(web, reads), tuple(name for name in names_of(web) if name in used))

    def test_more_than_six_are_told(self):
        web = chain(*[(1, 0, 0)] * 8)
        self.assertEqual(used_views(web, ("z",)), tuple("stuvwxyz"))
        self.assertEqual(used_views(web, ("y",)), tuple("stuvwxy"))

    def test_200_leaves(self):
        self.assertEqual(len(used_views(model_webs.broad(200), ("z",))), 8)


class Papers(unittest.TestCase):

    def test_webs_as_they_run(self):
        kinds = []
        for web, reads in CASES:
            used = used_views(web, reads)
            paper = live_paper(web, reads)
            self.assertEqual(paper, paper_of(web, reads, used))
            self.assertIs(check_live(web, reads, paper), paper[0] == "live")
            kinds.append((paper[0], len(paper[1]) if paper[0] == "live" else -1))
        self.assertLessEqual({("none", -1), ("live", 0), ("live", 1), ("live", 2), ("live", 3)}, set(kinds))

    def test_the_example(self):
        self.assertEqual(live_paper(WEB, ("w",)), TOLD)
        self.assertEqual(live_paper(reads=("w",), web=WEB), TOLD)
        self.assertIs(check_live(WEB, ("w",), TOLD), True)
        self.assertIs(check_live(paper=TOLD, reads=("w",), web=WEB), True)

    def test_no_view_has_to_be_live(self):
        for reads in (("v",), ("a",), ("b", "a")):
            self.assertEqual(live_paper(WEB, reads), ("live", (), ()))
            self.assertIs(check_live(WEB, reads, ("live", (), ())), True)

    def test_none(self):
        rows = ((0, 1, 0),) * 2
        self.assertEqual(live_paper(AHEAD, ("v", "a")), ("none", rows))
        self.assertIs(check_live(AHEAD, ("v", "a"), ("none", rows)), False)
        self.assertEqual(live_paper(AHEAD, ("w",)), ("none", ((0, 1, 0),) * 4))
        self.assertIs(check_live(AHEAD, ("w",), ("none", ((0, 1, 0),) * 4)), False)

    def test_sets_of_one_size_are_in_order(self):
        web, names = side(2, 3, 1)
        self.assertEqual(live_paper(web, names), ("live", ("s", "t"), whole_rows(web, names, ((), *"stu"))))
        web, names = side(1, 3, 2)
        self.assertEqual(live_paper(web, names[::-1])[1], ("t", "u"))
        web, names = side(2, 1, 3)
        self.assertEqual(live_paper(web, names)[:2], ("live", ("s", "u")))
        web, names = side(2, 2, 1)
        self.assertEqual(live_paper(web, ("s", "t", "u"))[1], ("s", "t"))

    def test_six_used_views(self):
        web, names = side(2, 3, 2, 3, 2, 3)
        paper = live_paper(web, names)
        self.assertEqual((paper[:2], len(paper[2])), (("live", names), 63))
        self.assertEqual(paper[2], whole_rows(web, names, list(all_sets(names))[:63]))
        self.assertIs(check_live(web, names, paper), True)
        web = chain(*[(1, 0, 1)] * 6)
        paper = live_paper(web, ("x", "a"))
        self.assertEqual((paper[1], len(paper[2])), (tuple("stuvwx"), 63))
        web = web[0], tuple((name, beat, ((source, "ahead"),)) for name, beat, ((source, _),) in web[1])
        paper = live_paper(web, ("x", "a"))
        self.assertEqual((paper[0], len(paper[1])), ("none", 64))
        self.assertIs(check_live(web, ("x", "a"), paper), False)
        self.assertEqual(live_paper(model_webs.broad(200), ("u",)), ("live", (), ()))


def whole_rows(web, reads, sets):
    """T, I and J that are told for each of the sets."""
    return tuple(whole_paper(live_web(web, tuple(names)), reads)[1:] for names in sets)


class Checks(unittest.TestCase):

    def check_refused(self, web, reads, paper, part):
        with self.assertRaises(BadPaper) as caught:
            check_live(web, reads, paper)
        self.assertEqual(caught.exception.part, part)
        self.assertIs(type(caught.exception.part), type(part))

    def test_form(self):
        for paper in model.no_integers() + [
                0, ("live",), ("live", ("v",)), ("live", ("v",), ((2, 1, 0),), ()), ["live", ("v",), ((2, 1, 0),)],
                ("live", ["v"], ((2, 1, 0),)), ("live", ("v",), [(2, 1, 0)]), ("live", "v", ((2, 1, 0),)),
                ("live", ("v",), None), ("live", None, ()), ("none",), ("none", (), ()), ("none", []), ("none", None),
                ["none", ()], ("none", "x"), ("LIVE", ("v",), ((2, 1, 0),)), ("whole", Stair.shift(0)),
                ("torn", 2, 1, 0), (("v",), ((2, 1, 0),)), (None, ("v",), ()), (b"none", ()), (True, ()),
                (model.Hostile(), ("v",), ()), (model.Hostile(), ()), ("live", model.Hostile(), ()),
                ("live", ("v",), model.Hostile()), ("none", model.Hostile()), ("live", ())]:
            self.check_refused(WEB, ("w",), paper, "form")

    def test_names_that_are_no_set_of_used_views(self):
        for names in [(thing,) for thing in model.no_integers()] + [
                (0,), ("a",), ("b",), ("x",), ("v", "v"), ("w", "v"), ("v", "w", "w"), ("v", "a"), ("v", None),
                ("v", "w", model.Hostile()), (["v"],), (("v",),), ("vw",), ("V",)]:
            for rows in (((2, 1, 0),), (), (None,)):
                self.check_refused(WEB, ("w",), ("live", names, rows), "names")
        for names in (("w",), ("v", "w"), ("w", "v")):
            self.check_refused(WEB, ("v",), ("live", names, ()), "names")

    def test_names_that_are_no_live_set(self):
        for names in ((), ("w",)):
            for rows in ((), ((2, 1, 0),), (None,)):
                self.check_refused(WEB, ("w",), ("live", names, rows), "names")
        self.check_refused(AHEAD, ("v", "a"), ("live", ("v",), ((0, 1, 0),)), "names")

    def test_a_greater_live_set_than_the_first_one(self):
        # With v LIVE READS are WHOLE, so no row can be told for it.
        first, last = whole_rows(WEB, ("w",), ((), ("w",)))
        for row in (first, last, (0, 0, 1)):
            self.check_refused(WEB, ("w",), ("live", ("v", "w"), (first, row, last)), 1)

    def test_another_live_set_of_the_least_size(self):
        web = ((("a", (5, 2)),), (("v", (1, 0, 1), (("a", "ahead"),)),
                                  ("w", (5, 3, 1), (("a", "with"), ("v", "with"))),
                                  ("x", (5, 4, 2), (("w", "with"), ("v", "with")))))
        told = live_paper(web, ("x",))
        self.assertEqual((told[1], len(told[2])), (("v",), 1))
        self.assertIs(check_live(web, ("x",), ("live", ("w",), told[2])), True)
        self.check_refused(web, ("x",), ("live", ("x",), told[2]), "names")

    def test_rows(self):
        for rows, part in ((((2, 1, 0), (2, 1, 0)), 1), ((), 0), ((None,), 0), (((2, 1),), 0), (((2, 1, 0, 0),), 0),
                           (([2, 1, 0],), 0), (((2, True, 0),), 0), (((2, 1, None),), 0), (((0, 1, 0),), 0),
                           (((2, 0, 1),), 0), (((2, 2, 0),), 0), (((2, 1, -2),), 0), (((2, -1, 0),), 0),
                           ((model.Hostile(),), 0), ((("2", 1, 0),), 0), (((2, 1, 0), None), 1),
                           ((None, None), 0), (((2, 1, 0),) * 9, 1)):
            self.check_refused(WEB, ("w",), ("live", ("v",), rows), part)
        for row in ((2, 1, 0), (3, 1, 0), (5, 1, 0), (8, 1, 0), (-1, 1, 0), (6 * 10 ** 999 + 2, 1, 0)):
            self.assertIs(check_live(WEB, ("w",), ("live", ("v",), (row,))), True)

    def test_rows_of_none(self):
        rows = ((0, 1, 0),) * 4
        for wrong in model.no_integers() + [(0, 0, 1), (0, 1, 1), (0, 1, 2), (0, 1), (0, 1, -2)]:
            for index in range(4):
                self.check_refused(AHEAD, ("w",), ("none", rows[:index] + (wrong,) + rows[index + 1:]), index)
                self.check_refused(AHEAD, ("w",), ("none", rows[:index] + (wrong,)), index)
        for many in range(4):
            self.check_refused(AHEAD, ("w",), ("none", rows[:many]), many)
        self.check_refused(AHEAD, ("w",), ("none", rows + rows[:1]), 4)
        self.check_refused(AHEAD, ("w",), ("none", rows + (None, None)), 4)

    def test_none_where_there_is_one(self):
        rows = whole_rows(WEB, ("w",), ((), ("w",)))
        for row in ((2, 1, 0), (0, 0, 1), (0, 1, 0)):
            self.check_refused(WEB, ("w",), ("none", (rows[0], row, rows[1], row)), 1)
        self.check_refused(WEB, ("v",), ("none", ((2, 0, 0), (2, 0, 0))), 0)
        self.check_refused(WEB, ("a",), ("none", ()), 0)

    def test_other_rows_than_the_told_ones(self):
        for web, reads in CASES[::6]:
            paper = live_paper(web, reads)
            moved = tuple((moment + ALL * place, one, other) for place, (moment, one, other) in enumerate(paper[-1]))
            self.assertIs(check_live(web, reads, paper[:-1] + (moved,)), paper[0] == "live")
            sets = list(all_sets(used_views(web, reads)))
            for index, (moment, one, other) in enumerate(paper[-1]):
                for row in ((moment + 1, one, other), (moment, other, one), (moment, one, one)):
                    rows = paper[-1][:index] + (row,) + paper[-1][index + 1:]
                    try:
                        check_whole(live_web(web, sets[index]), reads, ("torn",) + row)
                    except BadPaper:
                        self.check_refused(web, reads, paper[:-1] + (rows,), index)
                    else:
                        self.assertIs(check_live(web, reads, paper[:-1] + (rows,)), paper[0] == "live")


class Bounds(unittest.TestCase):

    def check_great(self, deed, most):
        with self.assertRaises(TooGreat) as caught:
            deed()
        self.assertEqual(caught.exception.most, most)

    def test_six_and_seven(self):
        web, names = side(1, 1, 1, 1, 1, 1)
        self.assertEqual(live_paper(web, names), ("live", (), ()))
        web = chain(*[(1, 0, 0)] * 7)
        self.assertEqual(live_paper(web, ("x",)), ("live", (), ()))
        self.assertIs(check_live(web, ("x",), ("live", (), ())), True)
        for paper in (("live", (), ()), None, ("live", None, None), ("none", ())):
            self.check_great(lambda: check_live(web, ("y",), paper), 6)
        self.check_great(lambda: live_paper(web, ("y",)), 6)
        self.assertEqual(len(used_views(web, ("y",))), 7)

    def test_200_comes_before_6(self):
        web = model_webs.broad(201)
        for deed in (lambda: used_views(web, ("z",)), lambda: live_paper(web, ("z",)),
                     lambda: check_live(web, ("z",), None)):
            self.check_great(deed, 200)
        web = model_webs.broad(200)
        for deed in (lambda: live_paper(web, ("z",)), lambda: check_live(web, ("z",), None)):
            self.check_great(deed, 6)

    def test_6_comes_before_4096(self):
        web = chain((4097, 0, 0), *[(1, 0, 0)] * 6)
        self.check_great(lambda: live_paper(web, ("y",)), 6)
        self.check_great(lambda: live_paper(web, ("x",)), 4096)

    def test_4096_in_a_set_that_is_tried(self):
        web, reads = side(1, 4096)
        self.check_great(lambda: live_paper(web, reads), 4096)
        web, reads = side(1, 4095)
        self.assertEqual(live_paper(web, reads), ("live", ("t",), ((1, 0, 1),)))

    def test_4096_in_a_set_that_is_not_tried(self):
        web = chain((4097, 0, 0), (4097, 0, 0))
        self.assertEqual(live_paper(web, ("t",)), ("live", (), ()))
        self.check_great(lambda: whole_paper(live_web(web, ("t",)), ("t",)), 4096)

    def test_4096_behind_sets_that_are_torn(self):
        web = ((("a", None),), (("v", (4097, 0, 0), (("a", "ahead"),)),
                                ("w", (4097, 0, 0), (("v", "with"), ("a", "with")))))
        self.assertEqual(whole_paper(web, ("w",)), ("torn", 0, 1, 0))
        self.check_great(lambda: live_paper(web, ("w",)), 4096)
        rows = ((0, 1, 0), (0, 1, 0))
        self.assertEqual(whole_rows(web, ("w",), ((), ("v",))), rows)
        # The set ("w",) is too great: a row that is no triple of integers is told ahead of it, a wrong one is not.
        for row, rest in (((0, 1, 0), ()), ((0, 0, 1), ()), ((0, 1, 7), (None,))):
            self.check_great(lambda: check_live(web, ("w",), ("none", rows + (row,) + rest)), 4096)
        for wrong, part in ((rows, 2), (rows + (None,), 2), (rows[:1] + (None, None), 1), (((0, 0, 0),) + rows, 0),
                            (rows[:1] + ((0, 0, 1), (0, 1, 0)), 1)):
            with self.assertRaises(BadPaper) as caught:
                check_live(web, ("w",), ("none", wrong))
            self.assertEqual(caught.exception.part, part)

    def test_4096_for_the_names(self):
        web = chain((4097, 0, 0), (4097, 0, 0))
        for rows in ((), ((0, 1, 0),), (None, None)):
            self.check_great(lambda: check_live(web, ("t",), ("live", ("t",), rows)), 4096)
        with self.assertRaises(BadPaper) as caught:
            check_live(web, ("t",), ("live", ("t", "s"), ()))
        self.assertEqual(caught.exception.part, "names")
        # Certificates of [51] ask for all LOWERs together, rows do not.
        web, reads = side(1, 4096)
        self.check_great(lambda: check_live(web, reads, ("live", (), ())), 4096)
        self.assertIs(check_live(web, reads, ("live", ("t",), ((7, 0, 1),))), True)


class Refused(unittest.TestCase):

    def deeds(self, web, reads):
        return [lambda: used_views(web, reads), lambda: live_paper(web, reads), lambda: check_live(web, reads, None)]

    def test_wrong_reads(self):
        for web in (WEB, model_webs.broad(201)):
            for reads, place in ((None, ()), ((), ()), (["a"], ()), (("a",) * 7, ()), (("a", "k"), (1,)),
                                 (("a", "a"), (1,)), ((model.Hostile(),), (0,)), (("v", "k", "v"), (1,))):
                for deed in self.deeds(web, reads):
                    with self.assertRaises(BadReads) as caught:
                        deed()
                    self.assertEqual(caught.exception.place, place)
        for deed in self.deeds(model_webs.broad(201), ("z", "z")):
            with self.assertRaises(BadReads):
                deed()

    def test_no_web(self):
        for thing in model.no_integers() + [0, ((None,), ())]:
            for deed in self.deeds(thing, None):
                with self.assertRaises(BadWeb):
                    deed()


if __name__ == "__main__":
    unittest.main()
