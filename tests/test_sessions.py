"""[95]: the sessions, each begun anew; and those of README.md."""

import doctest
import pathlib
import unittest

BEATS = """
>>> from viewstairs.stairs import Stair
>>> f = Stair.beat((5, 2, 1))
>>> f, f(9), (~f)(3), f.last(6), f * f, f[1]
(Stair(5, ((3, 2),)), 7, 8, 7, Stair(5, ((3, -3),)), (8, 7))
"""

RINGS = """
>>> from viewstairs.rings import drift, ring_stair
>>> f = ring_stair((((3, 0, 0), "with"), ((5, 2, 1), "ahead")))
>>> f, drift(f)
(Stair(15, ((0, -4), (3, 1), (9, 6))), (-15, 3))
"""

PATHS = """
>>> from viewstairs.paths import path_stair, span
>>> from viewstairs.webs import paths
>>> web = ((("a", None), ("b", (7, 1))), (("v", (5, 2, 1), (("a", "ahead"), ("b", "with"))),))
>>> paths(web, "v"), path_stair(web, ("v", "a")), span(web, ("v", "b"), 9)
((('v', 'a'), ('v', 'b')), Stair(5, ((3, 1),)), (1, 7))
"""

AGES = """
>>> from viewstairs.ages import greatest_age, greatest_wait, report, share_beyond
>>> from viewstairs.stairs import Stair
>>> f = Stair.beat((5, 2, 1))
>>> web = ((("a", None), ("b", (7, 1))), (("v", (5, 2, 1), (("a", "ahead"), ("b", "with"))),))
>>> greatest_age(f), greatest_wait(f), share_beyond(f, 3), report(web, ("v",))
((5, 2), (5, 3), (2, 5), '       6       2 v < a\\n       5       1 v < b')
"""

LIVES = """
>>> from viewstairs.lives import live_paper
>>> from viewstairs.moments import longest_torn, torn_share, whole_paper
>>> v, w = ("v", (3, 0, 0), (("a", "with"),)), ("w", (2, 0, 0), (("v", "with"), ("b", "with")))
>>> web = ((("a", None), ("b", None)), (v, w))
>>> whole_paper(web, ("w",)), torn_share(web, ("w",)), longest_torn(web, ("w",)), live_paper(web, ("w",))
(('torn', 2, 1, 0), (2, 3), 4, ('live', ('v',), ((2, 1, 0),)))
"""

RUNS = """
>>> from viewstairs.runs import Run
>>> v, w = ("v", (3, 0, 0), (("a", "with"),)), ("w", (2, 0, 0), (("v", "with"), ("b", "with")))
>>> run = Run(((("a", None), ("b", None)), (v, w)))
>>> run["a"] = 5
>>> run += 1
>>> run["a"] = 6
>>> run["b"] = 7
>>> run += 2
>>> run["w"], run["a"], run.is_whole(("w",)), run.moment
({('w', 'v', 'a'): (5,), ('w', 'b'): (7,)}, {('a',): (5, 6)}, False, 3)
"""

ALIKE = """
>>> from viewstairs.alike import parting
>>> one = ((("a", None),), (("v", (2, 0, 0), (("a", "with"),)),))
>>> other = ((("a", None),), (("v", (3, 0, 0), (("a", "with"),)),))
>>> parting(one, other, ("v",)), parting(one, other, ("a",))
((2, 0), None)
"""

TEXTS = """
>>> from viewstairs.texts import read_stair, web_text
>>> web = ((("a", None), ("b", (7, 1))), (("v", (5, 2, 1), (("a", "ahead"), ("b", "with"))),))
>>> web_text(web), read_stair("period 10\\n0 -3\\n3 2\\n8 7")
('table a\\ntable b 7 1\\nview v 5 2 1 <a b', Stair(5, ((3, 2),)))
"""


class Sessions(unittest.TestCase):

    def check_session(self, name, text):
        many = text.count(">>> ")
        session = doctest.DocTestParser().get_doctest(text, {}, name, None, 0)
        report = []
        failed, tried = doctest.DocTestRunner(verbose=False).run(session, out=report.append)
        self.assertEqual((failed, "".join(report)), (0, ""))
        self.assertEqual(tried, many)

    def test_beats(self):
        self.check_session("beats", BEATS)

    def test_rings(self):
        self.check_session("rings", RINGS)

    def test_paths(self):
        self.check_session("paths", PATHS)

    def test_ages(self):
        self.check_session("ages", AGES)

    def test_lives(self):
        self.check_session("lives", LIVES)

    def test_runs(self):
        self.check_session("runs", RUNS)

    def test_alike(self):
        self.check_session("alike", ALIKE)

    def test_texts(self):
        self.check_session("texts", TEXTS)

    def test_readme(self):
        text = (pathlib.Path(__file__).resolve().parent.parent / "README.md").read_text("utf-8")
        self.check_session("README.md", text.replace("```", ""))


if __name__ == "__main__":
    unittest.main()
