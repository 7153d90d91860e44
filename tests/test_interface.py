"""The interface: names and arguments, and what it says of viewstairs.stairs."""

import inspect
import unittest

from tests import model
from viewstairs import ages, alike, lives, moments, paths, rings, runs, stairs, texts, webs
from viewstairs.errors import OutOfPlace, TooGreat
from viewstairs.runs import Run
from viewstairs.stairs import Stair, climbs, first_unlike

SOME = [Stair(*telling) for telling in model.tellings(3, -2, 2)]
SOME += [Stair(*telling) for telling in model.chance_tellings(41, 100)]

# Each function and class of a file, with its arguments.
FUNCTIONS = (
    (stairs, ("Stair period steps", "climbs stair begin many", "first_unlike one other")),
    (rings, ("drift stair", "drift_paper stair", "check_drift stair paper", "turns_within stair moment floor",
             "ring_stair ring")),
    (webs, ("need_web thing", "is_web thing", "names_of web", "paths web name", "live_web web names")),
    (paths, ("path_stair web path", "lower_stair web path", "span web path moment", "need_reads web thing",
             "leaves web reads")),
    (ages, ("greatest_age stair", "least_age stair", "greatest_wait stair", "least_wait stair",
            "share_beyond stair number", "report web reads")),
    (moments, ("whole_paper web reads", "check_whole web reads paper", "torn_at web reads moment",
               "torn_share web reads", "longest_torn web reads", "next_torn web reads moment")),
    (alike, ("parting web other reads", "are_same web other reads")),
    (lives, ("used_views web reads", "live_paper web reads", "check_live web reads paper")),
    (runs, ("Run web", "under manager deed")),
    (texts, ("stair_text stair", "web_text web", "read_stair text", "read_web text")),
)


class Names(unittest.TestCase):

    def test_constants(self):
        self.assertEqual((stairs.MOST_STEPS, stairs.MOST_TURNS, stairs.MOST_BEAT), (4096, 10 ** 18, 1000000))

    def test_functions(self):
        for module, told in FUNCTIONS:
            for line in told:
                name, *arguments = line.split()
                thing = getattr(module, name)
                self.assertEqual(thing.__module__, module.__name__)
                self.assertEqual(list(inspect.signature(thing).parameters), arguments)

    def test_methods(self):
        for thing, arguments in ((Stair.beat, ["beat"]), (Stair.shift, ["number"]),
                                 (Stair.__call__, ["self", "moment"]), (Stair.last, ["self", "moment"]),
                                 (Stair.again, ["self", "times"]), (Run.retime, ["self", "name", "beat"]),
                                 (Run.read, ["self", "reads"]), (Run.is_whole, ["self", "reads"]),
                                 (Run.copy, ["self"]), (Run.trial, ["self"])):
            self.assertEqual(list(inspect.signature(thing).parameters), arguments)

    def test_methods_stand_in_the_class(self):
        for name in ("__init__", "period", "steps", "__call__", "__mul__", "__and__", "__or__", "__add__", "__radd__",
                     "__sub__", "__neg__", "__invert__", "__le__", "__ge__", "__lt__", "__gt__", "__eq__", "last",
                     "again", "__contains__", "__len__", "__getitem__", "__str__", "__repr__", "beat", "shift"):
            self.assertIn(name, Stair.__dict__)
        for name in ("__init__", "web", "moment", "__setitem__", "__iadd__", "__getitem__", "retime", "read",
                     "is_whole", "__contains__", "__len__", "copy", "__eq__", "trial"):
            self.assertIn(name, Run.__dict__)
        for made, name in ((Stair, "period"), (Stair, "steps"), (Run, "web"), (Run, "moment")):
            self.assertIsInstance(made.__dict__[name], property)
        self.assertIsInstance(Stair.__dict__["beat"], classmethod)
        self.assertIsInstance(Stair.__dict__["shift"], staticmethod)

    def test_climbs_is_a_generator(self):
        self.assertTrue(inspect.isgeneratorfunction(climbs))


class Members(unittest.TestCase):

    def test_in(self):
        for stair in SOME:
            values = {stair(moment) for moment in range(-60, 60)}
            for value in range(-15, 16):
                self.assertIs(value in stair, value in values)

    def test_in_far_away(self):
        stair = Stair.beat((5, 2, 1))
        self.assertIs(5 * 10 ** 999 + 2 in stair, True)
        self.assertIs(5 * 10 ** 999 + 3 in stair, False)
        self.assertIs(-5 * 10 ** 999 - 3 in stair, True)

    def test_in_of_other_things(self):
        for thing in model.no_integers():
            self.assertIs(thing in Stair.shift(0), False)

    def test_len(self):
        for stair in SOME:
            self.assertEqual(len(stair), len(model.plain(stair.period, stair.steps)[1]))
        self.assertEqual(len(Stair(10, ((0, -3), (3, 2), (8, 7)))), 1)

    def test_index(self):
        for stair in SOME:
            for index in range(len(stair)):
                self.assertEqual(stair[index], stair.steps[index])
            for index in range(-3 * len(stair), 3 * len(stair) + 1):
                turns, rest = index // len(stair), index % len(stair)
                at, value = stair.steps[rest]
                self.assertEqual(stair[index], (at + turns * stair.period, value + turns * stair.period))
        self.assertEqual([Stair.beat((5, 2, 1))[k] for k in (-2, -1, 0, 1)], [(-7, -8), (-2, -3), (3, 2), (8, 7)])
        self.assertEqual(Stair.beat((5, 2, 1))[10 ** 999], (3 + 5 * 10 ** 999, 2 + 5 * 10 ** 999))

    def test_index_behind_is_no_index_from_the_end(self):
        stair = Stair(7, ((0, 1), (2, 2), (5, 4)))
        self.assertEqual(stair[-1], (-2, -3))
        self.assertEqual(stair[3], (7, 8))


class Climbs(unittest.TestCase):

    def steps_from(self, stair, begin, many):
        found, moment = [], begin
        while len(found) < many:
            if stair(moment) != stair(moment - 1):
                found.append((moment, stair(moment)))
            moment += 1
        return found

    def test_against_the_definition(self):
        for stair in SOME:
            for begin in range(-7, 8):
                self.assertEqual(list(climbs(stair, begin, 5)), self.steps_from(stair, begin, 5))

    def test_how_many(self):
        stair = Stair(7, ((0, 1), (2, 2), (5, 4)))
        self.assertEqual(list(climbs(stair, 3, 0)), [])
        self.assertEqual(list(climbs(stair, 3, 1)), [(5, 4)])
        thousand = list(climbs(stair=stair, begin=3, many=1000))
        self.assertEqual(thousand, [stair[2 + k] for k in range(1000)])

    def test_far_away(self):
        stair, great = Stair.beat((5, 2, 1)), 5 * 10 ** 998
        self.assertEqual(list(climbs(stair, great + 3, 2)), [(great + 3, great + 2), (great + 8, great + 7)])
        self.assertEqual(list(climbs(stair, great + 4, 1)), [(great + 8, great + 7)])
        self.assertEqual(list(climbs(stair, -great - 2, 1)), [(-great - 2, -great - 3)])


class FirstUnlike(unittest.TestCase):

    def test_against_the_definition(self):
        for k, one in enumerate(SOME):
            for other in SOME[k % 5::5]:
                unlike = [t for t in range(one.period * other.period) if one(t) != other(t)]
                self.assertEqual(first_unlike(one, other), unlike[0] if unlike else None)

    def test_at_0_without_a_step_there(self):
        self.assertEqual(first_unlike(Stair(5, ((3, 2),)), Stair(5, ((3, 1),))), 0)
        self.assertEqual(first_unlike(Stair(5, ((3, 2),)), Stair(5, ((4, 2),))), 3)
        self.assertEqual(first_unlike(one=Stair(5, ((3, 2),)), other=Stair(5, ((2, 2),))), 2)

    def test_the_last_moment_of_the_period(self):
        one = Stair(100, ((0, 0), (50, 3)))
        self.assertEqual(first_unlike(one, Stair(100, ((0, 0), (50, 3), (99, 4)))), 99)

    def test_equal_ones(self):
        self.assertIsNone(first_unlike(Stair(10, ((0, -3), (3, 2), (8, 7))), Stair(5, ((3, 2),))))
        great = Stair(10 ** 999, ((3, 2),))
        self.assertIsNone(first_unlike(great, great))
        with self.assertRaises(TooGreat):
            first_unlike(great, Stair.shift(0))

    def test_wrong_things(self):
        stair = Stair.shift(0)
        for thing in model.no_stairs():
            for one, other in ((thing, stair), (stair, thing), (thing, thing)):
                with self.assertRaises(OutOfPlace):
                    first_unlike(one, other)


class Texts(unittest.TestCase):

    def test_str(self):
        self.assertEqual(str(Stair(10, ((0, -3), (3, 2), (8, 7)))), "period 5\n3 2")
        self.assertEqual(str(Stair(7, ((0, -1), (2, 0), (5, 4)))), "period 7\n0 -1\n2 0\n5 4")
        for stair in SOME:
            lines = [f"period {stair.period}"] + [f"{at} {value}" for at, value in stair.steps]
            self.assertEqual(str(stair), "\n".join(lines))
            self.assertEqual(f"{stair}", str(stair))

    def test_repr(self):
        for stair in SOME:
            self.assertEqual(repr(stair), f"Stair({stair.period!r}, {stair.steps!r})")
            self.assertEqual(eval(repr(stair)), stair)

    def test_a_thousand_digits(self):
        for great in (10 ** 999, 10 ** 1000 - 1, 10 ** 960, 10 ** 60 + 3, 10 ** 59):
            stair = Stair(great, ((great - 1, -great),))
            self.assertEqual(str(stair), f"period {great}\n{great - 1} -{great}")
            self.assertEqual(repr(stair), f"Stair({great}, (({great - 1}, -{great}),))")

    def test_whatever_digits_it_has(self):
        stair = Stair.shift(-10)
        for _ in range(300):
            stair = stair.again(10 ** 18)
        digits = "-1" + "0" * 5401
        self.assertEqual(str(stair), f"period 1\n0 {digits}")
        self.assertEqual(repr(stair), f"Stair(1, ((0, {digits}),))")


if __name__ == "__main__":
    unittest.main()
