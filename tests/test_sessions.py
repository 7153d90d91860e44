"""[95]: the sessions, each begun anew; and those of README.md."""

import doctest
import pathlib
import unittest

BEATS = """
>>> from viewstairs.stairs import Stair
>>> f = Stair.beat((5, 2, 1))
>>> f, f(9), (~f)(3), f.last(6), f * f, f[1]
(Stair(5, ((3, 2),)), 7, 8, 7, Stair(5, ((3, -3),)), (8, 7))
"""

RINGS = """
>>> from viewstairs.rings import drift, ring_stair
>>> f = ring_stair((((3, 0, 0), "with"), ((5, 2, 1), "ahead")))
>>> f, drift(f)
(Stair(15, ((0, -4), (3, 1), (9, 6))), (-15, 3))
"""


class Sessions(unittest.TestCase):

    def check_session(self, name, text, many=3):
        session = doctest.DocTestParser().get_doctest(text, {}, name, None, 0)
        report = []
        failed, tried = doctest.DocTestRunner(verbose=False).run(session, out=report.append)
        self.assertEqual((failed, "".join(report)), (0, ""))
        self.assertEqual(tried, many)

    def test_beats(self):
        self.check_session("beats", BEATS)

    def test_rings(self):
        self.check_session("rings", RINGS)

    def test_readme(self):
        text = (pathlib.Path(__file__).resolve().parent.parent / "README.md").read_text("utf-8")
        self.check_session("README.md", text.replace("```", ""), text.count(">>> "))


if __name__ == "__main__":
    unittest.main()
