"""[80], with [31], [33], [34] and [50]: Runs, what is written, shown and read there, other BEATs, trials, copies."""

import random
import unittest

from tests import model, model_runs, model_webs
from viewstairs.errors import BadReads, BadWeb, Missing, OutOfPlace, TooGreat
from viewstairs.moments import torn_at
from viewstairs.paths import leaves, path_stair
from viewstairs.runs import Run, under
from viewstairs.webs import names_of, paths

V, W = ("v", (3, 0, 0), (("a", "with"),)), ("w", (2, 0, 0), (("v", "with"), ("b", "with")))
WEB = ((("a", None), ("b", None)), (V, W))
LOADED = ((("a", (4, 1)), ("b", None)), (V, W))
GREAT = 10 ** 999
FAR = 10 ** 30


def passed(run, many):
    """The Run, behind so many MOMENTs."""
    run += many
    return run


def told(run):
    """All that a Run tells."""
    names = names_of(run.web)
    return run.moment, len(run), [run[name] for name in names], run.read(names[-1:]), run.is_whole(names[-1:])


def no_tables():
    return model.no_integers() + [0, "c", "", "A", "ab", ("a",), ["a"], "v", "w"]


class AgainstTheModel(unittest.TestCase):

    def check_all(self, run, plain, reads):
        self.assertEqual(run.moment, plain.moment)
        for name in names_of(plain.web):
            self.assertEqual(run[name], plain.told(name))
            self.assertEqual(list(run[name]), list(paths(plain.web, name)))
        for some in reads:
            self.assertEqual(run.read(some), plain.read(some))
            self.assertIs(run.is_whole(some), plain.is_whole(some))

    def do(self, run, plain, deed):
        kind, name, value = deed
        if kind == "pass":
            run += name
            plain.let_pass(name)
        elif kind == "retime":
            run.retime(name, value)
            plain.retime(name, value)
        elif plain.may_write(name):
            run[name] = value
            plain.write(name, value)
        else:
            with self.assertRaises(OutOfPlace):
                run[name] = value

    def test_all_deeds(self):
        chance = random.Random(71)
        whole = []
        for web in model_webs.chance_webs(71, 60) + model_webs.slow_webs(72, 60):
            run, plain = Run(web), model_runs.PlainRun(web)
            reads = [model_webs.chance_reads(chance, web) for _ in range(3)]
            self.check_all(run, plain, reads)
            for deed in model_runs.chance_deeds(chance, web, 40):
                self.do(run, plain, deed)
                self.check_all(run, plain, reads)
                whole.append(run.is_whole(reads[0]))
        self.assertGreater(whole.count(True), 1000)
        self.assertGreater(whole.count(False), 1000)

    def test_many_moments_side_by_side(self):
        chance = random.Random(73)
        for web in model_webs.chance_webs(73, 25, 7, 20, 4):
            run, plain = Run(web), model_runs.PlainRun(web)
            reads = [model_webs.chance_reads(chance, web)]
            for moment in range(60):
                for table, _ in web[0]:
                    if plain.may_write(table):
                        self.do(run, plain, ("write", table, moment))
                if moment % 9 == 4:
                    self.do(run, plain, ("retime", chance.choice(web[1])[0], model_runs.chance_beat(chance, 9, 25)))
                self.do(run, plain, ("pass", 1, None))
                self.check_all(run, plain, reads)


class AgainstStairs(unittest.TestCase):

    def test_stairs_of_paths(self):
        for web in model_webs.chance_webs(74, 60):
            run, writes = Run(web), []
            loads = dict(web[0])
            for moment in range(25):
                for place, (table, load) in enumerate(web[0]):
                    if load is None or moment % load[0] == load[1]:
                        run[table] = 100 * moment + place
                        writes.append((table, moment, 100 * moment + place))
                run += 1
                for name in names_of(web):
                    wanted = {path: tuple(value for table, at, value in writes
                                          if table == path[-1] and at <= path_stair(web, path)(moment))
                              for path in paths(web, name)}
                    self.assertEqual(run[name], wanted)
            self.assertEqual(set(loads), {table for table, _, _ in writes})

    def test_single_moments(self):
        chance = random.Random(75)
        for web in model_webs.chance_webs(75, 40) + model_webs.slow_webs(76, 40):
            run, reads = Run(web), model_webs.chance_reads(chance, web)
            for moment in range(-1, 40):
                self.assertIs(run.is_whole(reads), torn_at(web, reads, moment) is None)
                self.assertEqual(run.read(reads), ((),) * len(leaves(web, reads)))
                run += 1

    def test_moments_far_away(self):
        run, written = Run(WEB), []
        for many in (FAR, FAR, 4, FAR - 3, 0):
            written.append(run.moment)
            run["a"] = run.moment
            run["b"] = -run.moment
            run += many
            for name in names_of(WEB):
                for path, values in run[name].items():
                    seen, sign = path_stair(WEB, path)(run.moment - 1), 1 if path[-1] == "a" else -1
                    self.assertEqual(values, tuple(sign * at for at in written if at <= seen))
            self.assertIs(run.is_whole(("w",)), torn_at(WEB, ("w",), run.moment - 1) is None)
        self.assertEqual(run.moment, 3 * FAR + 1)

    def test_webs_that_are_too_great_for_stairs(self):
        web = ((("a", (4097, 0)),), (("v", (4097, 1, 1000000), (("a", "ahead"),)), ("w", (1, 0, 0), (("v", "with"),))))
        with self.assertRaises(TooGreat):
            path_stair(web, ("w", "v", "a"))
        run = Run(web)
        run["a"] = 7
        run += 1000001
        self.assertEqual((run["w"], run.is_whole(("a", "w"))), ({("w", "v", "a"): ()}, False))
        run += 1
        self.assertEqual((run["w"], run.is_whole(("a", "w"))), ({("w", "v", "a"): (7,)}, False))
        self.assertIs(run.is_whole(("v", "w")), True)


class Writing(unittest.TestCase):

    def test_the_example(self):
        run = Run(WEB)
        run["a"] = 5
        run += 1
        run["a"] = 6
        run["b"] = 7
        run += 2
        self.assertEqual((run["w"], run["a"], run.is_whole(("w",)), run.moment),
                         ({("w", "v", "a"): (5,), ("w", "b"): (7,)}, {("a",): (5, 6)}, False, 3))
        self.assertEqual(run.read(("w", "b")), ((5,), (7,), (7,)))

    def test_what_is_written_is_not_shown_before_the_moment_has_passed(self):
        run = Run(WEB)
        run["a"] = 5
        self.assertEqual((run["a"], run["v"], len(run)), ({("a",): ()}, {("v", "a"): ()}, 1))
        run += 0
        self.assertEqual(run["a"], {("a",): ()})
        run += 1
        self.assertEqual((run["a"], run["v"]), ({("a",): (5,)}, {("v", "a"): (5,)}))

    def test_values_in_their_order(self):
        run = Run(WEB)
        for value in (5, -3, 5, GREAT, 0):
            run["a"] = value
        run += 3
        run["a"] = 9
        run += 1
        self.assertEqual(run["a"], {("a",): (5, -3, 5, GREAT, 0, 9)})
        self.assertEqual((run.read(("a",)), len(run)), (((5, -3, 5, GREAT, 0, 9),), 6))

    def test_no_tables(self):
        for run in (Run(WEB), Run(LOADED)):
            for name in no_tables():
                for value in (5, None):
                    with self.assertRaises(Missing) as caught:
                        run[name] = value
                    self.assertIs(caught.exception.name, name)
            self.assertEqual(len(run), 0)

    def test_no_integers(self):
        for run in (Run(WEB), passed(Run(LOADED), 1), passed(Run(LOADED), 2)):
            for value in model.no_integers():
                with self.assertRaises(OutOfPlace):
                    run["a"] = value
            self.assertEqual(len(run), 0)

    def test_loads(self):
        run = Run(LOADED)
        for moment in range(10):
            run["b"] = moment
            if moment in (1, 5, 9):
                run["a"] = moment
            else:
                with self.assertRaises(OutOfPlace):
                    run["a"] = moment
            run += 1
        self.assertEqual((run["a"], run["b"]), ({("a",): (1, 5, 9)}, {("b",): tuple(range(10))}))
        run = passed(Run(((("a", (1, 0)), ("b", (1000000, 999999))), ())), 999999)
        run["a"] = 3
        run["b"] = 4
        self.assertEqual(len(run), 2)

    def test_1000_values(self):
        run = Run(LOADED)
        run += 1
        for place in range(1000):
            run["ab"[place % 2]] = place
        self.assertEqual(len(run), 1000)
        for name in "ab":
            with self.assertRaises(TooGreat) as caught:
                run[name] = 5
            self.assertEqual(caught.exception.most, 1000)
            with self.assertRaises(OutOfPlace):
                run[name] = None
        with self.assertRaises(Missing):
            run["c"] = 5
        run += 1
        with self.assertRaises(OutOfPlace):
            run["a"] = 5
        with self.assertRaises(TooGreat):
            run["b"] = 5
        self.assertEqual((len(run), run["b"]), (1000, {("b",): tuple(range(1, 1000, 2))}))

    def test_999_values(self):
        run = Run(WEB)
        for place in range(999):
            run["a"] = place
        run["b"] = 7
        run += 1
        self.assertEqual((len(run), run["b"]), (1000, {("b",): (7,)}))


class Passing(unittest.TestCase):

    def test_the_same_object(self):
        run = kept = Run(WEB)
        run += 3
        self.assertIs(run, kept)
        self.assertEqual((kept.moment, type(kept.moment)), (3, int))

    def test_bounds(self):
        run = Run(WEB)
        for many in (0, FAR, FAR):
            run += many
        self.assertEqual(run.moment, 2 * FAR)
        for many in model.no_integers() + [-1, FAR + 1, -FAR, GREAT, -GREAT]:
            with self.assertRaises(OutOfPlace):
                run += many
            self.assertIsInstance(run, Run)
            self.assertEqual(run.moment, 2 * FAR)

    def test_at_first(self):
        run = Run(web=WEB)
        self.assertEqual((run.web, run.moment, len(run)), (WEB, 0, 0))
        self.assertIs(run.web, WEB)
        self.assertEqual(run["w"], {("w", "v", "a"): (), ("w", "b"): ()})
        self.assertIs(run.is_whole(("w",)), torn_at(WEB, ("w",), -1) is None)

    def test_no_web(self):
        for thing in model.no_integers() + [0, ((None,), ()), (WEB[0],), [*WEB]]:
            with self.assertRaises(BadWeb):
                Run(thing)
        with self.assertRaises(BadWeb) as caught:
            Run((WEB[0], (V, V)))
        self.assertEqual(caught.exception.place, ("view", 1))

    def test_no_iteration(self):
        with self.assertRaises(TypeError):
            iter(Run(WEB))


class Names(unittest.TestCase):

    def test_in(self):
        run = Run(WEB)
        for name in ("a", "b", "v", "w"):
            self.assertIs(name in run, True)
        for name in model.no_integers() + [0, "c", "", "A", "ab", ("a",), ["a"]]:
            self.assertIs(name in run, False)

    def test_missing(self):
        run = Run(WEB)
        for name in model.no_integers() + [0, "c", "", "A", "ab", ("a",), ("v", "a")]:
            with self.assertRaises(Missing) as caught:
                run[name]
            self.assertIs(caught.exception.name, name)

    def test_200_paths(self):
        run = Run(model_webs.broad(200))
        run["a"] = 5
        run += 1
        self.assertEqual(len(run["z"]), 200)
        self.assertEqual(list(run["z"]), list(paths(run.web, "z")))
        self.assertEqual(set(run["z"].values()), {(), (5,)})
        self.assertEqual((len(run.read(("z",))), run.is_whole(("z",))), (200, True))
        for deed in (lambda: run.read(("z", "a")), lambda: run.is_whole(("a", "z"))):
            with self.assertRaises(TooGreat) as caught:
                deed()
            self.assertEqual(caught.exception.most, 200)
        run = Run(model_webs.broad(201))
        for deed in (lambda: run["z"], lambda: run.read(("z",)), lambda: run.is_whole(("z",))):
            with self.assertRaises(TooGreat) as caught:
                deed()
            self.assertEqual(caught.exception.most, 200)

    def test_wrong_reads(self):
        for run in (Run(WEB), Run(model_webs.broad(201))):
            for deed in (run.read, run.is_whole):
                for reads, place in ((None, ()), ((), ()), ("a", ()), (["a"], ()), (("a",) * 7, ()),
                                     (("a", "k"), (1,)), (("a", "v", "a"), (2,)), ((model.Hostile(),), (0,)),
                                     (("a", True), (1,)), (("v", "k", "v"), (1,))):
                    with self.assertRaises(BadReads) as caught:
                        deed(reads)
                    self.assertEqual(caught.exception.place, place)
        with self.assertRaises(BadReads):
            Run(model_webs.broad(201)).read(("z", "z"))

    def test_a_dict_is_new_each_time(self):
        run = passed(Run(WEB), 1)
        run["w"].clear()
        run["w"][("w", "b")] = (9,)
        self.assertEqual(run["w"], {("w", "v", "a"): (), ("w", "b"): ()})
        self.assertIsNot(run["w"], run["w"])
        self.assertIs(type(run["w"]), dict)


class Retiming(unittest.TestCase):

    def chain(self, beat):
        """A Run of one view with this BEAT, to whose table each MOMENT from 0 to 9 is written."""
        run = Run(((("a", None),), (("v", beat, (("a", "with"),)),)))
        for moment in range(10):
            run["a"] = moment
            run += 1
        return run

    def shown(self, run):
        """The last value that the view shows."""
        return (run["v"][("v", "a")] or (None,))[-1]

    def test_from_the_moment_to_come_on(self):
        run = self.chain((10, 0, 0))
        self.assertEqual(self.shown(run), 0)
        run.retime("v", (3, 2, 0))
        self.assertEqual(self.shown(run), 0)
        run += 1
        self.assertEqual(self.shown(run), 0)
        run += 1
        self.assertEqual(self.shown(run), 9)

    def test_the_beat_ahead_does_not_start_there(self):
        run = Run(((("a", None),), (("v", (5, 0, 0), (("a", "with"),)),)))
        run += 5
        run["a"] = 8
        run.retime("v", (5, 1, 0))
        run += 1
        self.assertIsNone(self.shown(run))
        run += 1
        self.assertEqual(self.shown(run), 8)

    def test_at_the_moment_itself(self):
        run = self.chain((100, 0, 0))
        run.retime("v", (7, 3, 0))
        run += 1
        self.assertEqual(self.shown(run), 9)

    def test_what_was_started_before_is_done(self):
        run = self.chain((9, 0, 4))
        run.retime("v", (1000, 999, 0))
        self.assertEqual(self.shown(run), 0)
        run += 3
        self.assertEqual(self.shown(run), 0)
        run += 1
        self.assertEqual(self.shown(run), 9)

    def test_a_later_start_stands_whichever_was_done_first(self):
        run = Run(((("a", None),), (("v", (5, 0, 20), (("a", "with"),)),)))
        run["a"] = 1
        run += 1
        run["a"] = 2
        run.retime("v", (2, 1, 3))
        run += 1
        run.retime("v", (1000, 999, 0))
        run += 2
        self.assertIsNone(self.shown(run))
        run += 1
        self.assertEqual(run["v"], {("v", "a"): (1, 2)})
        run += 40
        self.assertEqual(run["v"], {("v", "a"): (1, 2)})

    def test_an_earlier_start_is_shown_until_the_later_one_is_done(self):
        run = Run(((("a", None),), (("v", (5, 0, 2), (("a", "with"),)),)))
        run["a"] = 1
        run += 1
        run["a"] = 2
        run.retime("v", (1, 0, 10))
        run += 1
        self.assertIsNone(self.shown(run))
        run += 1
        self.assertEqual(self.shown(run), 1)
        run += 8
        self.assertEqual(self.shown(run), 1)
        run += 1
        self.assertEqual(self.shown(run), 2)

    def test_several_at_one_moment(self):
        run = self.chain((10, 0, 0))
        for beat in ((1, 0, 0), (2, 0, 0), (100, 11, 0)):
            run.retime("v", beat)
        run += 1
        self.assertEqual(self.shown(run), 0)
        run += 1
        self.assertEqual(self.shown(run), 9)

    def test_all_retimed_at_first(self):
        beats = {"v": (4, 3, 1), "w": (5, 1, 2)}
        other = (WEB[0], tuple((name, beats[name], sources) for name, _, sources in WEB[1]))
        run, like = Run(WEB), Run(other)
        run.retime("v", beats["v"])
        run.retime(beat=beats["w"], name="w")
        for moment in range(60):
            for one in (run, like):
                one["a"] = moment
                one["b"] = -moment
            run += 1
            like += 1
            if moment > 20:
                self.assertEqual([run[name] for name in "vwab"], [like[name] for name in "vwab"])
                self.assertIs(run.is_whole(("w", "a")), like.is_whole(("w", "a")))
        self.assertEqual(run.web, WEB)

    def test_far_away(self):
        run = Run(WEB)
        run += FAR
        run["a"] = 4
        run.retime("v", (1000000, 7, 1000000))
        run += FAR
        self.assertEqual(run["v"], {("v", "a"): (4,)})
        self.assertIs(run.is_whole(("v",)), True)

    def test_refused(self):
        run = Run(WEB)
        for name in model.no_integers() + [0, "c", "", "V", ("v",), "a", "b"]:
            for beat in ((1, 0, 0), None):
                with self.assertRaises(Missing) as caught:
                    run.retime(name, beat)
                self.assertIs(caught.exception.name, name)
        for beat in model.no_integers() + [0, (0, 0, 0), (5, 5, 0), (5, -1, 0), (5, 0, -1), (1000001, 0, 0), (5, 0),
                                           (5, 0, 1000001), (5, True, 0), [5, 0, 0], (5, 0, 0, 0), (5, 0, None)]:
            with self.assertRaises(OutOfPlace):
                run.retime("v", beat)
        self.assertEqual(run, Run(WEB))

    def test_the_ends_of_the_bounds(self):
        run = Run(WEB)
        for beat in ((1, 0, 0), (1000000, 999999, 1000000), (1000000, 0, 0)):
            self.assertIsNone(run.retime("v", beat))


class Equality(unittest.TestCase):

    def made(self, *deeds, web=WEB):
        run = Run(web)
        for name, value in deeds:
            if name == "pass":
                run += value
            elif isinstance(value, tuple):
                run.retime(name, value)
            else:
                run[name] = value
        return run

    def check(self, one, other, equal):
        for left, right in ((one, other), (other, one)):
            self.assertIs(left == right, equal)
            self.assertIs(left != right, not equal)

    def test_equal_ones(self):
        deeds = (("a", 3), ("pass", 2), ("b", 4), ("v", (5, 0, 0)), ("pass", 1), ("w", (2, 1, 0)))
        for many in range(len(deeds) + 1):
            self.check(self.made(*deeds[:many]), self.made(*deeds[:many]), True)
            for other in range(many):
                self.check(self.made(*deeds[:many]), self.made(*deeds[:other]), False)
        self.check(self.made(("pass", 3)), self.made(("pass", 1), ("pass", 2), ("pass", 0)), True)

    def test_the_web(self):
        self.check(Run(WEB), Run(LOADED), False)
        self.check(Run(WEB), Run((WEB[0], (V, ("w", (2, 0, 0), (("v", "ahead"), ("b", "with")))))), False)
        self.check(Run(WEB), Run(tuple(tuple(part) for part in WEB)), True)

    def test_a_retimed_view_is_not_another_web(self):
        other = (WEB[0], (("v", (5, 0, 0), (("a", "with"),)), W))
        self.check(self.made(("v", (5, 0, 0))), Run(other), False)
        self.check(self.made(("v", (3, 0, 0))), Run(WEB), False)

    def test_the_moment(self):
        self.check(self.made(("pass", 1)), Run(WEB), False)
        self.check(self.made(("a", 3), ("pass", FAR)), self.made(("a", 3), ("pass", FAR - 1)), False)

    def test_values(self):
        self.check(self.made(("a", 3)), self.made(("a", 4)), False)
        self.check(self.made(("a", 3)), self.made(("b", 3)), False)
        self.check(self.made(("a", 3)), self.made(("a", 3), ("a", 3)), False)
        self.check(self.made(("a", 3), ("pass", 1)), self.made(("pass", 1), ("a", 3)), False)
        self.check(self.made(("a", 3), ("a", 4)), self.made(("a", 4), ("a", 3)), False)
        self.check(self.made(("a", 3), ("pass", 1), ("b", 4)), self.made(("b", 4), ("pass", 1), ("a", 3)), False)

        one = (("a", None),), ()
        self.check(self.made(("a", 3), web=one), self.made(("a", 4), web=one), False)
        self.check(self.made(("a", 3), web=one), self.made(("a", 3), web=one), True)

    def test_the_order_of_values_is_that_of_each_table(self):
        self.check(self.made(("a", 3), ("b", 4)), self.made(("b", 4), ("a", 3)), True)
        self.check(self.made(("a", 3), ("b", 4), ("a", 5)), self.made(("a", 5), ("b", 4), ("a", 3)), False)

    def test_other_beats(self):
        one, other = ("v", (5, 0, 0)), ("w", (4, 0, 0))
        self.check(self.made(one, other), self.made(one, other), True)
        self.check(self.made(one, other), self.made(other, one), False)
        self.check(self.made(one, other), self.made(one), False)
        self.check(self.made(one, ("pass", 1)), self.made(("pass", 1), one), False)
        self.check(self.made(one), self.made(("w", (5, 0, 0))), False)
        self.check(self.made(one), self.made(("v", (5, 0, 1))), False)
        self.check(self.made(one, ("a", 3)), self.made(("a", 3), one), True)

    def test_other_things(self):
        run = Run(WEB)
        for thing in [thing for thing in model.no_integers() if not isinstance(thing, model.Hostile)] + [0, WEB, Run]:
            self.check(run, thing, False)
        self.assertIs(run == model.Hostile(), False)


class Copies(unittest.TestCase):

    def test_a_copy_goes_on_by_itself(self):
        run = Run(WEB)
        run["a"] = 5
        run.retime("v", (4, 1, 0))
        run += 2
        other = run.copy()
        self.assertEqual(other, run)
        self.assertIsNot(other, run)
        before = told(run)
        other["a"] = 6
        other.retime("w", (1, 0, 0))
        other += 5
        self.assertEqual(told(run), before)
        self.assertEqual((other.moment, len(other)), (7, 2))
        before = told(other)
        run["b"] = 8
        run["b"] = 9
        run.retime("v", (1, 0, 0))
        run += 1
        self.assertEqual(told(other), before)
        self.assertNotEqual(run, other)

    def test_a_copy_does_the_same(self):
        chance = random.Random(77)
        for web in model_webs.chance_webs(77, 30):
            run = Run(web)
            for kind, name, value in model_runs.chance_deeds(chance, web, 30):
                other = run.copy()
                for one in (run, other):
                    if kind == "pass":
                        one += name
                    elif kind == "retime":
                        one.retime(name, value)
                    elif dict(web[0])[name] is None:
                        one[name] = value
                self.assertEqual(other, run)
                self.assertEqual(told(other), told(run))


class Trials(unittest.TestCase):

    def begun(self):
        run = Run(WEB)
        run["a"] = 5
        run.retime("v", (4, 1, 2))
        run += 3
        return run

    def go_on(self, run):
        run["a"] = 6
        run["b"] = 7
        run.retime("w", (1, 0, 0))
        run += 9
        return run["w"], run.moment, len(run)

    def test_behind_the_block(self):
        run, kept = self.begun(), self.begun()
        before = told(run)
        with run.trial() as one:
            self.assertIs(one, run)
            self.assertEqual(self.go_on(one), self.go_on(kept))
            self.assertEqual(run, kept)
        self.assertEqual((run, told(run)), (self.begun(), before))
        self.assertEqual(self.go_on(run), self.go_on(self.begun()))

    def test_it_begins_with_the_block(self):
        run = self.begun()
        trial = run.trial()
        self.go_on(run)
        kept = run.copy()
        with trial:
            run += 1
            run["b"] = 3
        self.assertEqual(run, kept)

    def test_an_exception_passes_on(self):
        for error in (ValueError, KeyboardInterrupt, Missing, StopIteration):
            run = self.begun()
            raised = error("x")
            with self.assertRaises(error) as caught:
                with run.trial() as one:
                    self.go_on(one)
                    raise raised
            self.assertIs(caught.exception, raised)
            self.assertEqual(run, self.begun())

    def test_an_error_of_the_run_passes_on(self):
        run = self.begun()
        with self.assertRaises(OutOfPlace):
            with run.trial():
                run["a"] = 1
                run["a"] = None
        self.assertEqual(run, self.begun())

    def test_however_it_ends(self):
        run = self.begun()

        def returned():
            with run.trial() as one:
                return self.go_on(one)

        self.assertEqual(returned(), self.go_on(self.begun()))
        self.assertEqual(run, self.begun())
        for _ in range(3):
            with run.trial() as one:
                self.go_on(one)
                continue
        while True:
            with run.trial() as one:
                self.go_on(one)
                break
        self.assertEqual(run, self.begun())

    def test_one_in_another(self):
        run = self.begun()
        with run.trial() as one:
            one["a"] = 8
            inner = one.copy()
            with one.trial() as two:
                self.go_on(two)
                with two.trial():
                    two += 5
            self.assertEqual(run, inner)
            with one.trial():
                one.retime("v", (1, 0, 0))
            self.assertEqual(run, inner)
            self.go_on(one)
        self.assertEqual(run, self.begun())

    def test_nothing_is_done(self):
        run = self.begun()
        with run.trial():
            pass
        self.assertEqual(run, self.begun())
        self.go_on(run)
        self.assertEqual((run.moment, len(run)), (12, 3))

    def test_copies_made_within(self):
        run = self.begun()
        with run.trial() as one:
            self.go_on(one)
            other = one.copy()
        self.assertEqual((other.moment, len(other), run.moment), (12, 3, 3))
        self.go_on(run)
        self.assertEqual(run, other)

    def test_1000_values(self):
        run = self.begun()
        for _ in range(3):
            with run.trial():
                for place in range(999):
                    run["b"] = place
                with self.assertRaises(TooGreat):
                    run["b"] = 0
            self.assertEqual(len(run), 1)

    def test_under(self):
        run = self.begun()
        self.assertEqual(under(run.trial(), self.go_on), self.go_on(self.begun()))
        self.assertEqual(run, self.begun())
        self.assertIs(under(deed=lambda one: one, manager=run.trial()), run)
        self.assertIsNone(under(run.trial(), lambda one: None))
        self.assertEqual(under(run.trial(), lambda one: under(one.trial(), self.go_on) + (one.moment,))[-1], 3)

    def test_under_with_an_exception(self):
        run = self.begun()

        def deed(one):
            self.go_on(one)
            raise KeyError("x")

        with self.assertRaises(KeyError):
            under(run.trial(), deed)
        self.assertEqual(run, self.begun())

    def test_under_another_manager(self):
        steps = []

        class Manager:
            def __enter__(self):
                steps.append("in")
                return "given"

            def __exit__(self, *told_things):
                steps.append(told_things[0])

        self.assertEqual(under(Manager(), lambda one: steps.append(one) or "done"), "done")
        self.assertEqual(steps, ["in", "given", None])


class RefusedCalls(unittest.TestCase):

    def test_nothing_is_changed(self):
        run = passed(Run(LOADED), 2)
        run["b"] = 5
        run.retime("v", (4, 1, 2))
        before, kept = told(run), run.copy()

        def write(name, value):
            run[name] = value

        def wait(many):
            other = run
            other += many

        for deed in (lambda: write("a", 5), lambda: write("b", None), lambda: write("v", 5), lambda: wait(-1),
                     lambda: wait(None), lambda: run.retime("a", (1, 0, 0)), lambda: run.retime("v", (1, 1, 0)),
                     lambda: run["x"], lambda: run.read(("x",)), lambda: run.is_whole(None)):
            with self.assertRaises((Missing, OutOfPlace, BadReads)):
                deed()
            self.assertEqual((told(run), run), (before, kept))

    def test_what_was_passed_is_left_as_it_was(self):
        web, reads, beat = (WEB[0], WEB[1]), ("w", "a"), (4, 1, 2)
        before = repr((web, reads, beat))
        run = Run(web)
        run.retime("v", beat)
        run["a"] = 3
        run += 5
        run.read(reads), run.is_whole(reads), run["w"], run == run.copy()
        self.assertEqual(repr((web, reads, beat)), before)

    def test_equal_calls_tell_equal_things(self):
        for run in (Run(WEB), passed(Run(LOADED), 7)):
            self.assertEqual(told(run), told(run))
            self.assertEqual(told(run), told(run.copy()))


if __name__ == "__main__":
    unittest.main()
