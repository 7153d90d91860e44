"""[1]: integers and tuples, the order of errors, and that calls change nothing."""

import ast
import random
import unittest

from tests import model, model_webs
from viewstairs.ages import greatest_age, greatest_wait, least_age, least_wait, report, share_beyond
from viewstairs.alike import are_same, parting
from viewstairs.errors import BadPaper, BadReads, BadStair, BadText, BadWeb, Missing, OutOfPlace
from viewstairs.lives import check_live, live_paper, used_views
from viewstairs.moments import check_whole, longest_torn, next_torn, torn_at, torn_share, whole_paper
from viewstairs.paths import leaves, lower_stair, need_reads, path_stair, span
from viewstairs.rings import check_drift, drift, drift_paper, ring_stair, turns_within
from viewstairs.runs import Run, under
from viewstairs.stairs import Stair, climbs, first_unlike
from viewstairs.texts import read_stair, read_web, stair_text, web_text
from viewstairs.webs import is_web, live_web, names_of, need_web, paths


def answers(one, other):
    """What all calls tell of two STAIRs."""
    ring = (((3, 0, 0), "with"), ((5, 2, 1), "ahead"))
    return [one.period, one.steps, one(7), one.last(7), one.again(9), one * other, one & other, one | other, one + 3,
            3 + one, one - 3, -one, ~one, one <= other, one >= other, one < other, one > other, one == other,
            7 in one, len(one), one[4], str(one), repr(one), list(climbs(one, 2, 5)), first_unlike(one, other),
            drift(one), drift_paper(one), check_drift(one, drift_paper(one)), ring_stair(ring),
            Stair.beat((5, 2, 1)), Stair.shift(4), stair_text(one), read_stair(stair_text(one))]


def answers_of_web(web, reads):
    """What all calls tell of a WEB and its READS."""
    name, path = reads[0], leaves(web, reads)[-1]
    papers = [whole_paper(web, reads), ("torn", next_torn(web, reads, 5) or 0, 0, 0)]
    live, other = live_paper(web, reads), live_web(web, used_views(web, reads))
    return [need_web(web), is_web(web), names_of(web), paths(web, name), live_web(web, names_of(web)[len(web[0]):]),
            path_stair(web, path), lower_stair(web, path), span(web, path, 7), need_reads(web, reads),
            leaves(web, reads), greatest_age(path_stair(web, path)), least_age(path_stair(web, path)),
            greatest_wait(path_stair(web, path)), least_wait(path_stair(web, path)),
            share_beyond(path_stair(web, path), 3), report(web, reads), papers, check_whole(web, reads, papers[0]),
            torn_at(web, reads, 3), torn_share(web, reads), longest_torn(web, reads), next_torn(web, reads, 3),
            parting(web, other, reads), are_same(web, other, reads), used_views(web, reads), live,
            check_live(web, reads, live), web_text(web), read_web(web_text(web)), Run(web).read(reads),
            Run(web).is_whole(reads), under(Run(web).trial(), lambda run: run.web)]


def kinds(thing):
    """The kinds of all parts of a thing, tuples and what they are made of."""
    if type(thing) is tuple:
        return {tuple}.union(*map(kinds, thing))
    return {type(thing)}


class Webs(unittest.TestCase):

    def cases(self):
        chance = random.Random(54)
        for web in model_webs.chance_webs(54, 60):
            yield web, model_webs.chance_reads(chance, web)

    def test_equal_calls_return_equal_results(self):
        for web, reads in self.cases():
            again = ast.literal_eval(repr(web)), ast.literal_eval(repr(reads))
            first = answers_of_web(web, reads)
            self.assertEqual(answers_of_web(*again), first)
            self.assertEqual(answers_of_web(web, reads), first)

    def test_no_argument_is_changed(self):
        for web, reads in self.cases():
            before = repr((web, reads))
            stair = path_stair(web, leaves(web, reads)[0])
            told = repr(stair)
            answers_of_web(web, reads)
            greatest_age(stair), least_wait(stair), share_beyond(stair, 2)
            self.assertEqual((repr((web, reads)), repr(stair)), (before, told))

    def test_results_are_of_the_told_kinds(self):
        for web, reads in self.cases():
            for answer in answers_of_web(web, reads):
                if isinstance(answer, list):
                    answer = answer[0]
                self.assertLessEqual(kinds(answer), {tuple, int, str, bool, type(None), Stair})

    def test_true_and_false_are_no_integers(self):
        web = ((("a", (True, False)),), ())
        self.assertIs(is_web(web), False)
        for thing in (True, False):
            for wrong in (((("a", (5, thing)),), ()), ((("a", None),), (("v", (1, 0, thing), (("a", "with"),)),))):
                with self.assertRaises(BadWeb):
                    need_web(wrong)

    def test_a_refused_call_changes_nothing(self):
        web, reads = next(self.cases())
        before = answers_of_web(web, reads)
        for deed in (lambda: next_torn(web, reads, None), lambda: path_stair(web, None), lambda: live_web(web, 3),
                     lambda: check_whole(web, reads, None), lambda: leaves(web, None), lambda: paths(web, None),
                     lambda: parting(web, web, None), lambda: check_live(web, reads, None), lambda: read_web("table"),
                     lambda: live_paper(web, None)):
            with self.assertRaises((OutOfPlace, BadPaper, BadReads, Missing, BadText)):
                deed()
        self.assertEqual(answers_of_web(web, reads), before)

    def test_by_names_in_any_order(self):
        for web, reads in list(self.cases())[::10]:
            path, paper, live = leaves(web, reads)[-1], whole_paper(web, reads), live_paper(web, reads)
            stair, beat = path_stair(path=path, web=web), (4, 1, 2)
            self.assertEqual(paths(name=reads[0], web=web), paths(web, reads[0]))
            self.assertEqual(live_web(names=(), web=web), web)
            self.assertEqual(stair, path_stair(web, path))
            self.assertEqual(lower_stair(path=path, web=web), lower_stair(web, path))
            self.assertEqual(span(moment=7, path=path, web=web), span(web, path, 7))
            self.assertEqual(need_reads(thing=reads, web=web), reads)
            self.assertEqual(leaves(reads=reads, web=web), leaves(web, reads))
            self.assertEqual(share_beyond(number=2, stair=stair), share_beyond(stair, 2))
            self.assertEqual(report(reads=reads, web=web), report(web, reads))
            self.assertEqual(whole_paper(reads=reads, web=web), paper)
            self.assertEqual(check_whole(paper=paper, reads=reads, web=web), paper[0])
            self.assertEqual(torn_at(moment=7, reads=reads, web=web), torn_at(web, reads, 7))
            self.assertEqual(torn_share(reads=reads, web=web), torn_share(web, reads))
            self.assertEqual(longest_torn(reads=reads, web=web), longest_torn(web, reads))
            self.assertEqual(next_torn(moment=7, reads=reads, web=web), next_torn(web, reads, 7))
            self.assertIsNone(parting(reads=reads, other=web, web=web))
            self.assertIs(are_same(reads=reads, web=web, other=web), True)
            self.assertEqual(used_views(reads=reads, web=web), used_views(web, reads))
            self.assertEqual(live_paper(reads=reads, web=web), live)
            self.assertIs(check_live(paper=live, reads=reads, web=web), live[0] == "live")
            self.assertEqual(read_web(text=web_text(web=web)), web)
            self.assertEqual(read_stair(text=stair_text(stair=stair)), stair)
            run, like = Run(web=web), Run(web)
            run.retime(beat=beat, name=web[1][0][0])
            like.retime(web[1][0][0], beat)
            self.assertEqual(run, like)
            self.assertEqual(run.read(reads=reads), like.read(reads))
            self.assertIs(run.is_whole(reads=reads), like.is_whole(reads))
            self.assertIs(under(deed=lambda one: one, manager=run.trial()), run)


class Conventions(unittest.TestCase):

    def test_equal_calls_return_equal_results(self):
        tellings = model.chance_tellings(51, 30)
        for one, other in zip(tellings, tellings[1:]):
            first = answers(Stair(*one), Stair(*other))
            stairs = Stair(*one), Stair(*other)
            self.assertEqual(answers(*stairs), first)
            self.assertEqual(answers(*stairs), first)

    def test_no_argument_is_changed(self):
        for one, other in zip(model.chance_tellings(52, 30), model.chance_tellings(53, 30)):
            stairs = Stair(*one), Stair(*other)
            before = repr(stairs)
            answers(*stairs)
            self.assertEqual(repr(stairs), before)

    def test_in_place_signs_make_other_stairs(self):
        stair = kept = Stair(5, ((3, 2),))
        stair *= kept
        stair += 3
        stair -= 1
        stair &= kept
        stair |= kept
        self.assertEqual(repr(kept), "Stair(5, ((3, 2),))")

    def test_results_are_tuples(self):
        stair = Stair(7, ((0, 1), (2, 2)))
        for thing in (stair.steps, stair.steps[0], stair[3], drift(stair), drift_paper(stair),
                      list(climbs(stair, 0, 1))[0]):
            self.assertIs(type(thing), tuple)

    def test_a_refused_call_changes_nothing(self):
        stair, paper = Stair(5, ((3, 2),)), (2, 1, -5)
        for deed in (lambda: stair(None), lambda: stair.last(True), lambda: stair.again(10 ** 18 + 1),
                     lambda: stair["3"], lambda: stair & 3, lambda: first_unlike(stair, 3),
                     lambda: turns_within(stair, 3, 4)):
            with self.assertRaises(OutOfPlace):
                deed()
        with self.assertRaises(BadPaper):
            check_drift(stair, (2, 1, 5))
        with self.assertRaises(BadStair):
            stair.__class__(5, None)
        self.assertEqual((repr(stair), check_drift(stair, paper)), ("Stair(5, ((3, 2),))", (-5, 1)))

    def test_true_and_false_are_no_integers(self):
        stair = Stair.shift(-1)
        for thing in (True, False):
            for deed in (lambda: stair(thing), lambda: stair.last(thing), lambda: stair.again(thing),
                         lambda: stair + thing, lambda: thing + stair, lambda: stair - thing, lambda: stair[thing],
                         lambda: Stair.shift(thing), lambda: Stair.beat((thing, 0, 0)),
                         lambda: Stair.beat((1, 0, thing)), lambda: turns_within(stair, thing, -5),
                         lambda: turns_within(stair, 5, thing)):
                with self.assertRaises(OutOfPlace):
                    deed()
            self.assertIs(thing in stair, False)
            for period, steps, place in ((thing, ((0, 0),), ("period",)), (5, thing, ("steps",)),
                                         (5, ((thing, 0),), ("step", 0)), (5, ((0, thing),), ("step", 0))):
                with self.assertRaises(BadStair) as caught:
                    Stair(period, steps)
                self.assertEqual(caught.exception.place, place)

    def test_several_wrong_arguments(self):
        with self.assertRaises(BadStair) as caught:
            Stair(None, None)
        self.assertEqual(caught.exception.place, ("period",))
        with self.assertRaises(OutOfPlace):
            check_drift(None, None)
        with self.assertRaises(OutOfPlace):
            turns_within(None, None, None)
        for paper, part in (((None, 0, 7), "form"), ((0, 0, 7), "turns"), ((0, 1, 7), "gain"), (None, "form")):
            with self.assertRaises(BadPaper) as caught:
                check_drift(Stair.shift(-1), paper)
            self.assertEqual(caught.exception.part, part)

    def test_by_position_and_by_names(self):
        stair, paper = Stair(period=5, steps=((3, 2),)), (2, 1, -5)
        self.assertEqual(stair(moment=9), stair(9))
        self.assertEqual(stair.last(moment=9), stair.last(9))
        self.assertEqual(stair.again(times=9), stair.again(9))
        self.assertEqual(Stair.beat(beat=(5, 2, 1)), Stair.beat((5, 2, 1)))
        self.assertEqual(Stair.shift(number=3), Stair.shift(3))
        self.assertEqual(list(climbs(many=2, begin=3, stair=stair)), list(climbs(stair, 3, 2)))
        self.assertEqual(first_unlike(other=stair, one=-stair), first_unlike(-stair, stair))
        self.assertEqual(drift(stair=stair), drift(stair))
        self.assertEqual(drift_paper(stair=stair), drift_paper(stair))
        self.assertEqual(check_drift(paper=paper, stair=stair), check_drift(stair, paper))
        self.assertEqual(turns_within(floor=-9, moment=9, stair=stair), turns_within(stair, 9, -9))
        self.assertEqual(ring_stair(ring=(((5, 2, 1), "with"),)), stair)

    def test_what_was_told_may_be_passed_on(self):
        great = Stair.shift(10 ** 999).again(10 ** 18).again(10 ** 18)
        told = great(0)
        self.assertEqual(told, 10 ** 1035)
        self.assertEqual(great(told), 2 * told)
        self.assertEqual(Stair.shift(told), great)
        self.assertEqual(great.last(told), 0)
        self.assertEqual(check_drift(great, drift_paper(great)), (told, 1))


if __name__ == "__main__":
    unittest.main()
