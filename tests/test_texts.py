"""[90], [91]: texts of STAIRs and of WEBs, what is read back, and the first word that cannot stand there."""

import random
import re
import unittest

from tests import model, model_webs
from viewstairs.errors import BadStair, BadText, BadWeb, OutOfPlace
from viewstairs.stairs import Stair
from viewstairs.texts import read_stair, read_web, stair_text, web_text

WEB = ((("a", None), ("b", (7, 1))), (("v", (5, 2, 1), (("a", "ahead"), ("b", "with"))),))
WEB_TEXT = "table a\ntable b 7 1\nview v 5 2 1 <a b"
GREAT = 10 ** 999

INTEGER = re.compile("0|-?[1-9][0-9]{0,999}")
NUMBER = re.compile("0|[1-9][0-9]{0,6}")
NAME = re.compile("[a-z]{1,8}")
SOURCE = re.compile("<?[a-z]{1,8}")
PERIOD, TABLE, VIEW = re.compile("period"), re.compile("table"), re.compile("view")


def fault(number, line, *forms):
    """The first word of a line that cannot stand there by any of the forms, or None."""
    words = line.split(" ")
    if "" in words:
        return number, 0
    places = []
    for form in forms:
        fits = [rule.fullmatch(word) is not None for rule, word in zip(form, words)] + [False]
        if all(fits[:-1]) and len(words) == len(form):
            return None
        places.append(fits.index(False) + 1)
    return number, max(places)


def stair_fault(text):
    """The line and the word of [91] for the text of a STAIR, or None."""
    lines = text.split("\n")
    for number, line in enumerate(lines, 1):
        found = fault(number, line, (PERIOD, INTEGER) if number == 1 else (INTEGER, INTEGER))
        if found:
            return found
    return (2, 1) if len(lines) == 1 else None


def web_fault(text):
    """The line and the word of [91] for the text of a WEB, or None."""
    tables = ((TABLE, NAME), (TABLE, NAME, NUMBER, NUMBER))
    kinds = ["table"]
    for number, line in enumerate(text.split("\n"), 1):
        views = tuple((VIEW, NAME, NUMBER, NUMBER, NUMBER) + (SOURCE,) * many for many in range(1, len(line) + 2))
        first = line.split(" ")[0]
        if number > 1 and first == "view":
            kinds.append("view")
        found = fault(number, line, *(views if kinds[-1] == "view" else tables))
        if found:
            return found
    return None


def changed(chance, text, words):
    """The text with some fault, or with none."""
    lines = [line.split(" ") for line in text.split("\n")]
    for _ in range(chance.choice((1, 1, 1, 2))):
        line = chance.choice(lines)
        kind, place = chance.randrange(8), chance.randrange(len(line) + 1)
        if kind == 0:
            line.insert(place, chance.choice(words))
        elif kind == 1 and len(line) > 1:
            del line[place - 1]
        elif kind == 2:
            line[place - 1] = chance.choice(words)
        elif kind == 3:
            lines.insert(chance.randrange(len(lines) + 1), chance.choice(lines)[:])
        elif kind == 4 and len(lines) > 1:
            lines.remove(line)
        elif kind == 5:
            chance.shuffle(lines)
        elif kind == 6:
            line[place - 1] += chance.choice(("0", "a", "-", "<", " ", "\n", "A"))
        else:
            line[place - 1] = chance.choice(("0", "a", "-", "<", " ", "\n", "A")) + line[place - 1]
        lines = [line for line in lines if line]
    return "\n".join(" ".join(line) for line in lines)


class Texts(unittest.TestCase):

    def check_bad(self, deed, text, line, word):
        with self.assertRaises(BadText) as caught:
            deed(text)
        self.assertEqual((caught.exception.line, caught.exception.word), (line, word))


class StairTexts(Texts):

    def check_place(self, text, place):
        with self.assertRaises(BadStair) as caught:
            read_stair(text)
        self.assertEqual(caught.exception.place, place)

    def test_written(self):
        self.assertEqual(stair_text(Stair(10, ((0, -3), (3, 2), (8, 7)))), "period 5\n3 2")
        self.assertEqual(stair_text(stair=Stair(7, ((0, -1), (2, 0), (5, 4)))), "period 7\n0 -1\n2 0\n5 4")
        self.assertEqual(stair_text(Stair.shift(0)), "period 1\n0 0")

    def test_written_and_read_back(self):
        for telling in list(model.tellings(3)) + model.chance_tellings(101, 200):
            stair = Stair(*telling)
            lines = [f"period {stair.period}"] + [f"{at} {value}" for at, value in stair.steps]
            self.assertEqual(stair_text(stair), "\n".join(lines))
            self.assertEqual(stair_text(stair), str(stair))
            self.assertEqual(read_stair(stair_text(stair)), stair)

    def test_read(self):
        self.assertEqual(read_stair("period 10\n0 -3\n3 2\n8 7"), Stair(5, ((3, 2),)))
        self.assertEqual(repr(read_stair(text="period 5\n3 2")), "Stair(5, ((3, 2),))")
        self.assertEqual(read_stair("period 4\n0 0\n1 0\n2 0"), Stair(4, ((0, 0),)))

    def test_a_text_need_not_be_plain(self):
        for period, steps in model.chance_tellings(102, 200):
            text = "\n".join([f"period {period}"] + [f"{at} {value}" for at, value in steps])
            self.assertEqual(read_stair(text), Stair(period, steps))

    def test_great_integers(self):
        most = 10 ** 1000 - 1
        stair = Stair(most, ((GREAT, -most), (most - 1, -1)))
        self.assertEqual(stair_text(stair), f"period {most}\n{GREAT} -{most}\n{most - 1} -1")
        self.assertEqual(read_stair(stair_text(stair)), stair)

    def test_more_digits_than_1000(self):
        stair = Stair(1, ((0, 10 ** 1000),))
        self.assertEqual(stair_text(stair), "period 1\n0 1" + "0" * 1000)
        self.check_bad(read_stair, stair_text(stair), 2, 2)
        self.check_bad(read_stair, stair_text(-stair), 2, 2)
        self.check_bad(read_stair, "period 1" + "0" * 1000 + "\n0 0", 1, 2)
        self.check_bad(read_stair, "period 5\n1" + "0" * 1000 + " 0", 2, 1)
        stair = Stair.shift(-10 ** 1000)
        for _ in range(200):
            stair = stair.again(10 ** 18)
        self.assertEqual(stair_text(stair), "period 1\n0 -1" + "0" * 4600)

    def test_no_strings(self):
        things = [thing for thing in model.no_integers() if not isinstance(thing, str)]
        for thing in things + [0, b"period 5\n3 2", ["period 5", "3 2"], Stair.shift(0)]:
            self.check_bad(read_stair, thing, 0, 0)
            self.check_bad(read_web, thing, 0, 0)

    def test_the_first_line(self):
        for line, word in (("period", 2), ("period 5 3", 3), ("period 5 x", 3), ("period x", 2), ("period x 3", 2),
                           ("perio 5", 1), ("Period 5", 1), ("periods 5", 1), ("5", 1), ("5 period", 1), ("3 2", 1),
                           ("table a", 1), ("period 05", 2), ("period -0", 2), ("period +5", 2), ("period 5.", 2),
                           ("period 5,", 2), ("period 0x5", 2), ("period 1_0", 2), ("period --5", 2), ("period -", 2),
                           ("period 5-", 2), ("period -05", 2), ("period 00", 2), ("period five", 2), ("x", 1),
                           ("period period", 2)):
            for rest in ("", "\n3 2", "\n3", "\n"):
                self.check_bad(read_stair, line + rest, 1, word)

    def test_lines_of_steps(self):
        for line, word in (("3", 2), ("3 2 1", 3), ("x 2", 1), ("3 x", 2), ("x", 1), ("x x x", 1), ("3 x 4", 2),
                           ("period 5", 1), ("period", 1), ("-0 2", 1), ("3 -0", 2), ("03 2", 1), ("3 02", 2),
                           ("3 -02", 2), ("3 - 2", 2), ("- 3 2", 1), ("3 +2", 2), ("3 2 x", 3), ("3 2-", 2)):
            self.check_bad(read_stair, "period 5\n" + line, 2, word)
            self.check_bad(read_stair, f"period 5\n3 2\n{line}\nx", 3, word)
            self.check_bad(read_stair, f"period 5\n7 9\n{line}\n  ", 3, word)

    def test_empty_words(self):
        for line in ("", " ", " 3 2", "3 2 ", "3  2", "x  2", "  3", "3 x ", " x", "3 2 1 ", "3  x 4 5"):
            self.check_bad(read_stair, "period 5\n" + line, 2, 0)
            self.check_bad(read_stair, f"period 5\n3 2\n{line}\n4 5", 3, 0)
        for line in ("", " ", " period 5", "period  5", "period 5 ", "x ", " x", "period  x"):
            self.check_bad(read_stair, line, 1, 0)
            self.check_bad(read_stair, line + "\n3 2", 1, 0)
        self.check_bad(read_stair, "period 5\n3 2\n", 3, 0)
        self.check_bad(read_stair, "\nperiod 5\n3 2", 1, 0)
        self.check_bad(read_stair, "period 5\n\n3 2", 2, 0)

    def test_lines_that_are_missing(self):
        self.check_bad(read_stair, "period 5", 2, 1)
        self.check_bad(read_stair, "period -5", 2, 1)

    def test_other_signs_between_words(self):
        for text, word in (("period\t5\n3 2", 1), ("period 5\r\n3 2", 2), ("period\n5\n3 2", 2), ("period,5\n3 2", 1)):
            self.check_bad(read_stair, text, 1, word)

    def test_against_rules(self):
        chance, words = random.Random(103), ["period", "0", "-0", "7", "-7", "07", "x", "+1", "-", "", "3", "9" * 1001]
        found = []
        for telling in model.chance_tellings(103, 150, 6):
            for _ in range(15):
                text = changed(chance, stair_text(Stair(*telling)), words)
                found.append(stair_fault(text))
                if found[-1]:
                    self.check_bad(read_stair, text, *found[-1])
                else:
                    self.check_behind(text)
        self.assertGreater(found.count(None), 200)
        self.assertGreater(len(set(found)), 12)

    def check_behind(self, text):
        (_, period), *steps = [line.split(" ") for line in text.split("\n")]
        steps = tuple((int(at), int(value)) for at, value in steps)
        try:
            wanted = Stair(int(period), steps)
        except BadStair as error:
            self.check_place(text, error.place)
        else:
            self.assertEqual(read_stair(text), wanted)

    def test_what_is_no_stair(self):
        for text, place in (("period 0\n0 0", ("period",)), ("period -5\n9 9", ("period",)),
                            ("period 5\n5 2", ("step", 0)), ("period 5\n-1 2", ("step", 0)),
                            ("period 5\n3 2\n3 3", ("step", 1)),
                            ("period 5\n1 2\n3 1", ("step", 1)), ("period 5\n1 2\n3 8", ("rise",)),
                            ("period 5\n1 2\n2 3\n4 2", ("step", 2))):
            self.check_place(text, place)

    def test_the_form_comes_first(self):
        self.check_bad(read_stair, "period 0\n9 9\n9", 3, 2)
        self.check_bad(read_stair, "period 5\n9 9\n3 2\nx", 4, 1)

    def test_4096_steps(self):
        lines = [f"{at} 0" for at in range(4097)]
        self.assertEqual(read_stair("\n".join(["period 9000"] + lines[:4096])), Stair(9000, ((0, 0),)))
        self.check_place("\n".join(["period 9000"] + lines), ("steps",))
        self.check_place("\n".join(["period 0"] + lines), ("period",))
        self.check_bad(read_stair, "\n".join(["period 9000"] + lines + ["x"]), 4099, 1)

    def test_wrong_things(self):
        for thing in model.no_stairs():
            with self.assertRaises(OutOfPlace):
                stair_text(thing)


class WebTexts(Texts):

    def check_place(self, text, place):
        with self.assertRaises(BadWeb) as caught:
            read_web(text)
        self.assertEqual(caught.exception.place, place)

    def test_the_example(self):
        self.assertEqual(web_text(WEB), WEB_TEXT)
        self.assertEqual(web_text(web=WEB), WEB_TEXT)
        self.assertEqual(read_web(WEB_TEXT), WEB)
        self.assertEqual(read_web(text=WEB_TEXT), WEB)

    def test_tables_alone(self):
        for web, text in ((((("a", None),), ()), "table a"), (((("a", (1, 0)),), ()), "table a 1 0"),
                          (((("abcdefgh", (1000000, 999999)),), ()), "table abcdefgh 1000000 999999")):
            self.assertEqual(web_text(web), text)
            self.assertEqual(read_web(text), web)

    def test_written_and_read_back(self):
        for web in model_webs.chance_webs(111, 200) + [model_webs.broad(200), model_webs.broad(201)]:
            text = web_text(web)
            self.assertEqual(read_web(text), web)
            self.assertIsNone(web_fault(text))
            self.assertEqual(web_text(read_web(text)), text)

    def test_names_that_are_other_words(self):
        web = ((("table", None), ("view", (3, 2))), (("period", (5, 2, 1), (("view", "ahead"), ("table", "with"))),))
        text = "table table\ntable view 3 2\nview period 5 2 1 <view table"
        self.assertEqual(web_text(web), text)
        self.assertEqual(read_web(text), web)

    def test_great_beats(self):
        most = 1000000
        web = ((("a", (most, most - 1)),), (("v", (most, most - 1, most), (("a", "ahead"),)),))
        self.assertEqual(web_text(web), "table a 1000000 999999\nview v 1000000 999999 1000000 <a")
        self.assertEqual(read_web(web_text(web)), web)

    def test_lines_of_tables(self):
        for line, word in (("table", 2), ("table A", 2), ("table abcdefghi", 2), ("table a1", 2), ("table <a", 2),
                           ("table a x", 3), ("table a 7", 4), ("table a 7 x", 4), ("table a 7 1 x", 5),
                           ("table a 7 1 1", 5), ("table A 7", 2), ("table a -7 1", 3), ("table a 7 -1", 4),
                           ("table a 07 1", 3), ("table a 7 01", 4), ("table a 7 -0", 4), ("table a 12345678 1", 3),
                           ("table a 7 12345678", 4), ("table 7 1", 2), ("table a b", 3), ("tables a", 1),
                           ("Table a", 1), ("a", 1), ("period 5", 1), ("table a 00000007 1", 3)):
            self.check_bad(read_web, line, 1, word)
            self.check_bad(read_web, line + "\nx", 1, word)
            self.check_bad(read_web, f"table c\n{line}\n", 2, word)
        self.check_bad(read_web, "view v 5 2 1 a", 1, 1)
        self.check_bad(read_web, "view", 1, 1)

    def test_lines_of_views(self):
        for line, word in (("view", 2), ("view v", 3), ("view v 5", 4), ("view v 5 2", 5), ("view v 5 2 1", 6),
                           ("view V 5 2 1 a", 2), ("view v x 2 1 a", 3), ("view v 5 x 1 a", 4),
                           ("view v 5 2 x a", 5), ("view v 5 2 1 A", 6), ("view v 5 2 1 <", 6),
                           ("view v 5 2 1 <<a", 6), ("view v 5 2 1 a<", 6),
                           ("view v 5 2 1 < a", 6), ("view v 5 2 1 a <A", 7), ("view v 5 2 1 a b c d e F", 11),
                           ("view V", 2), ("view v 5 2 a", 5), ("view v 5 a b", 4), ("view v -5 2 1 a", 3),
                           ("view v 5 -0 1 a", 4), ("view v 5 2 -1 a", 5), ("view v 5 2 12345678 a", 5),
                           ("view v 5 2 1 7", 6), ("view v 5 2 1 a 7", 7), ("view v 5 2 1 abcdefghi", 6),
                           ("view v 5 2 1 <abcdefghi", 6), ("view v 5 2 1 >a", 6), ("views v 5 2 1 a", 1),
                           ("View v 5 2 1 a", 1), ("x", 1), ("v 5 2 1 a", 1), ("table", None), ("view 5 2 1 a", 2)):
            if word is not None:
                self.check_bad(read_web, "table a\n" + line, 2, word)
                self.check_bad(read_web, f"table a\n{line}\n ", 2, word)
            self.check_bad(read_web, f"table a\nview w 5 2 1 a\n{line}\nx", 3, word or 1)

    def test_tables_behind_views(self):
        for line in ("table b", "table", "table B", "table b 7 1", "table b 7 1 1", "period 5", "b"):
            self.check_bad(read_web, WEB_TEXT + "\n" + line, 4, 1)
            self.check_bad(read_web, WEB_TEXT + "\n" + line + " ", 4, 0)

    def test_empty_words(self):
        for line in ("", " ", " table c", "table  c", "table c ", "table  C", "x ", "table c 7  x", " view v 5 2 1 a",
                     "view v 5 2 1 ", "view v 5 2 1 a ", "view v 5 2  1 a", "  ", "view  V"):
            self.check_bad(read_web, line, 1, 0)
            self.check_bad(read_web, "table a\n" + line, 2, 0)
            self.check_bad(read_web, WEB_TEXT + "\n" + line, 4, 0)
            self.check_bad(read_web, line + "\n" + WEB_TEXT, 1, 0)
        self.check_bad(read_web, WEB_TEXT + "\n", 4, 0)
        self.check_bad(read_web, "table a\n\ntable b", 2, 0)

    def test_the_first_line_that_is_wrong(self):
        self.check_bad(read_web, "table a\ntable B\nview v 5 2 1 \n", 2, 2)
        self.check_bad(read_web, "table a\ntable b 7\n\n", 2, 4)

    def test_against_rules(self):
        words = ["table", "view", "period", "0", "-0", "7", "-7", "07", "x", "<a", "<", "v", "V", "12345678", "1234567",
                 "1000001", "abcdefghi", ""]
        chance, found = random.Random(113), []
        for web in model_webs.chance_webs(113, 200):
            for _ in range(15):
                text = changed(chance, web_text(web), words)
                found.append(web_fault(text))
                if found[-1]:
                    self.check_bad(read_web, text, *found[-1])
                else:
                    self.check_behind(text)
        self.assertGreater(found.count(None), 300)
        self.assertGreater(len(set(found)), 20)

    def check_behind(self, text):
        try:
            web = read_web(text)
        except BadWeb as error:
            self.assertIn(error.place[0], ("form", "table", "view"))
        else:
            self.assertEqual(web_text(web), text)

    def test_what_is_no_web(self):
        for text, place in (("table a 0 0", ("table", 0)), ("table a 5 5", ("table", 0)),
                            ("table a\ntable a", ("table", 1)),
                            ("table a 1000001 0", ("table", 0)), ("table a 9999999 0", ("table", 0)),
                            ("table a\nview v 0 0 0 a", ("view", 0)), ("table a\nview v 5 5 0 a", ("view", 0)),
                            ("table a\nview v 5 0 1000001 a", ("view", 0)), ("table a\nview a 5 0 0 a", ("view", 0)),
                            ("table a\nview v 5 0 0 b", ("view", 0)), ("table a\nview v 5 0 0 v", ("view", 0)),
                            ("table a\nview v 5 0 0 a <a", ("view", 0)), ("table a\nview v 5 0 0 a a", ("view", 0)),
                            (WEB_TEXT + "\nview w 5 0 0 v\nview v 5 0 0 a", ("view", 2)),
                            ("table a 0 0\nview v 0 0 0 a", ("table", 0))):
            self.check_place(text, place)

    def test_more_sources_than_four(self):
        tables = "".join(f"table {name}\n" for name in "abcde")
        self.assertEqual(len(read_web(tables + "view v 5 2 1 a <b c d")[1][0][2]), 4)
        self.check_place(tables + "view v 5 2 1 a <b c d e", ("view", 0))
        self.check_place(tables + "view v 5 2 1" + " a" * 300, ("view", 0))
        self.check_bad(read_web, tables + "view v 5 2 1 a <b c d e 7", 6, 11)

    def test_more_tables_than_six_and_views_than_eight(self):
        tables = [f"table {name}" for name in "abcdefg"]
        views = [f"view {name} 1 0 0 a" for name in "rstuvwxyz"]
        self.assertEqual(len(read_web("\n".join(tables[:6]))[0]), 6)
        self.check_place("\n".join(tables), ("form",))
        self.assertEqual(len(read_web("\n".join(tables[:6] + views[:8]))[1]), 8)
        self.check_place("\n".join(tables[:6] + views), ("form",))
        self.check_place("\n".join(["table a 0 0"] + tables), ("form",))
        self.check_bad(read_web, "\n".join(tables + views + ["view"]), 17, 2)

    def test_no_web(self):
        for thing in model.no_integers() + [0, ((None,), ())]:
            with self.assertRaises(BadWeb):
                web_text(thing)


if __name__ == "__main__":
    unittest.main()
