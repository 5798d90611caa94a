"""Styles and desks that are read from texts, and texts that nothing has."""

import random
import re
import unittest

from addedink.desks import Desk
from addedink.errors import Unreadable
from addedink.readings import read_desk, read_style
from addedink.styles import Style
from addedink.texts import show_desk, show_style

from tests import reference
from tests.cases import ErrorCase
from tests.samples import BARS, FEW, LAMPS, STAIRS

SHOWN = [Style(shapes) for shapes in [LAMPS, BARS, FEW, STAIRS, [[1, 99]] + BARS[1:]]]
FEW_TEXT = "11; 1; 12; 13; 14; 15; 16; 1 2; 17; 18"
BAR_TEXT = "10; 11; 12; 13; 14; 15; 16; 17; 18; 19"
DESK_TEXT = f"({FEW_TEXT}) rest 7: 1 -30; count copy ({BAR_TEXT}) free 0 most 12"
# Every character of texts, and the signs that matter most in them.
SIGNS = [chr(code) for code in range(32, 127) if chr(code) != "%"]
FEW_SIGNS = " ;:()-+0129acdeimnorstuy"

INTEGER = "(0|-?[1-9][0-9]{0,6})"
STYLE = "[1-9][0-9]?( [1-9][0-9]?)*(; [1-9][0-9]?( [1-9][0-9]?)*){9}"
REST = f" rest {INTEGER}:( {INTEGER})+;"
CHECK = f"({REST}| copy [(]{STYLE}[)]| count)"
DESK = f"[(]{STYLE}[)]{CHECK}* free (0|[1-9][0-9]{{0,6}}|any) most ([1-9][0-9]{{0,6}}|any)( raised)?"


def has_style(text):
    """Tell whether some style has a text, by the form of such texts."""
    if not re.fullmatch(STYLE, text):
        return False
    shapes = [[int(word) for word in shape.split(" ")] for shape in text.split("; ")]
    ascend = all(less < more for shape in shapes for less, more in zip(shape, shape[1:]))
    return ascend and len({tuple(shape) for shape in shapes}) == 10


def has_desk(text):
    """Tell whether some desk has a text, by the form of such texts."""
    if not re.fullmatch(DESK, text):
        return False
    styles = re.findall("[(]([^()]*)[)]", text)
    moduli = [int(modulus) for modulus in re.findall("rest ([^:]*):", text)]
    return all(has_style(style) for style in styles) and all(modulus >= 2 for modulus in moduli)


def neighbours(text, signs):
    """All texts with one character less, or another one or one more of some signs."""
    for at in range(len(text) + 1):
        for sign in signs:
            yield text[:at] + sign + text[at:]
            if at < len(text) and sign != text[at]:
                yield text[:at] + sign + text[at + 1:]
        if at < len(text):
            yield text[:at] + text[at + 1:]


class ReadingCase(ErrorCase):
    def assert_unreadable(self, read, text):
        self.assert_fails(Unreadable, text, read, text)
        self.assert_fails(Unreadable, text, read, text=text)

    def assert_no_style(self, text):
        self.assertFalse(has_style(text))
        self.assert_unreadable(read_style, text)
        self.assert_unreadable(read_desk, f"({text}) free 0 most any")
        self.assert_unreadable(read_desk, f"({BAR_TEXT}) copy ({text}) free 0 most any")
        self.assert_unreadable(read_desk, text)

    def assert_no_desk(self, text):
        self.assertFalse(has_desk(text))
        self.assert_unreadable(read_desk, text)
        self.assert_unreadable(read_style, text)

    def assert_read_where_told(self, read, show, is_told, text):
        """Check that a text is read if and only if something has it."""
        try:
            told = read(text)
        except Unreadable as error:
            self.assertEqual(error.value, text)
            self.assertFalse(is_told(text), text)
        else:
            self.assertTrue(is_told(text), text)
            self.assertEqual(show(told), text)


class StyleTest(ReadingCase):
    def test_examples(self):
        style = Style([[10], [11, 2], [12], [13], [14], [15], [16], [17], [18], [19]])
        self.assertEqual(read_style(show_style(style)), style)
        self.assertIsInstance(read_style(text=BAR_TEXT), Style)

    def test_shown_styles(self):
        for style in SHOWN:
            for shown in [style, style.redrawn(3, [77, 5]), style.redrawn(0, list(range(20, 60)))]:
                told = read_style(show_style(shown))
                self.assertEqual(told, shown)
                self.assertEqual(told.shapes, shown.shapes)
                self.assertTrue(has_style(show_style(shown)))

    def test_all_neighbours(self):
        for text in [FEW_TEXT, "1 2; 3; 4; 10 99; 5; 6; 7; 8; 9; 1 20"]:
            for other in neighbours(text, SIGNS):
                self.assert_read_where_told(read_style, show_style, has_style, other)

    def test_spaces(self):
        for other in [
            " " + FEW_TEXT, FEW_TEXT + " ", FEW_TEXT.replace(" ", "  ", 1), FEW_TEXT.replace("; ", ";", 1),
            FEW_TEXT.replace("; ", ";"), FEW_TEXT.replace("1 2;", "1  2;"), FEW_TEXT.replace(";", " ;", 1),
            FEW_TEXT.replace("; ", " ", 1), FEW_TEXT.replace("; ", ";;", 1), FEW_TEXT + "; ", FEW_TEXT + ";",
            "; " + FEW_TEXT, ";" + FEW_TEXT,
        ]:
            self.assert_no_style(other)

    def test_integers(self):
        for word in [
            "01", "001", "+1", "-1", "0", "-0", "100", "99999999", "10000001", "1.0", "1e1", "0x1", "1_0", "--1", "a",
            "-", "", " ", "9" * 60, "-" + "9" * 60, "9" * 5000,
        ]:
            for place in ["12", "11", "18"]:
                self.assert_no_style(FEW_TEXT.replace(place, word))
            self.assert_no_style(FEW_TEXT.replace("1 2", f"1 {word}"))
        self.assertEqual(read_style(FEW_TEXT.replace("18", "99"))[9], [99])

    def test_strokes_in_another_order_or_twice(self):
        for shape in ["2 1", "1 1", "1 2 2", "1 3 2", "10 9", "9 9", "1 2 1"]:
            self.assert_no_style(FEW_TEXT.replace("1 2", shape))
        for shape in ["1 2 3", "9 10", "2 10", "1 99"]:
            self.assertEqual(read_style(FEW_TEXT.replace("1 2", shape))[7], [int(word) for word in shape.split()])

    def test_shapes(self):
        self.assert_no_style(FEW_TEXT.replace("; 12", "; "))
        self.assert_no_style(FEW_TEXT.replace(" 12", ""))
        self.assert_no_style("; ".join([""] * 10))
        self.assert_no_style(FEW_TEXT.replace("18", "11"))
        self.assert_no_style(FEW_TEXT.replace("1 2", "1"))
        self.assert_no_style(FEW_TEXT.replace("12", "13"))

    def test_numbers_of_figures(self):
        for many in [0, 1, 2, 8, 9, 11, 12, 20]:
            self.assert_no_style("; ".join([str(stroke) for stroke in range(1, many + 1)]))
        self.assert_no_style(FEW_TEXT.replace("; 18", ""))
        self.assert_no_style(FEW_TEXT + "; 19")

    def test_other_texts(self):
        for text in ["", " ", ";", "; ", "10", "style", f"({FEW_TEXT})", "[[11], [1]]", "(", ")", "~", "None"]:
            self.assert_no_style(text)


class DeskTest(ReadingCase):
    def test_examples(self):
        bars = Style([[10], [11, 2], [12], [13], [14], [15], [16], [17], [18], [19]])
        desk = Desk(bars, [("rest", 7, [1, -3]), ("count",), ("copy", bars)], free=None, raised=True)
        self.assertEqual(read_desk(show_desk(desk)), desk)
        self.assertIsInstance(read_desk(text=DESK_TEXT), Desk)

    def test_what_is_read(self):
        desk = read_desk(DESK_TEXT)
        self.assertEqual(desk.style, Style(FEW))
        self.assertEqual(desk.checks, [("rest", 7, [1, -30]), ("count",), ("copy", Style(BARS))])
        self.assertEqual((desk.free, desk.most, desk.raised, desk.period), (0, 12, False, 2))
        desk = read_desk(f"({BAR_TEXT}) free any most any raised")
        self.assertEqual((desk.checks, desk.free, desk.most, desk.raised), ([], None, None, True))

    def test_shown_desks(self):
        desks = reference.random_desks(72, 100)
        checks = [("rest", 9999999, [9999999, -9999999, 0]), ("copy", SHOWN[4]), ("count",), ("rest", 2, [-1])]
        for style in SHOWN:
            for shown in [[], checks, checks[::-1], checks * 2] + [[check] for check in checks]:
                for free, most, raised in [(0, None, False), (None, 1, True), (3, 4, False), (9999999, 9999999, True)]:
                    desks.append(Desk(style, shown, free=free, most=most, raised=raised))
        for desk in desks:
            text = show_desk(desk)
            if max([len(digits) for digits in re.findall("[0-9]+", text)]) <= 7:
                self.assertTrue(has_desk(text))
                told = read_desk(text)
                self.assertEqual(told, desk)
                self.assertEqual(show_desk(told), text)
            else:
                self.assert_no_desk(text)

    def test_all_neighbours(self):
        for text in [DESK_TEXT, f"({BAR_TEXT}) rest 2: 0; free any most any raised"]:
            self.assertTrue(has_desk(text))
            for other in neighbours(text, FEW_SIGNS):
                self.assert_read_where_told(read_desk, show_desk, has_desk, other)

    def test_texts_that_are_changed_often(self):
        source = random.Random(73)
        readable = 0
        for desk in reference.random_desks(74, 1500):
            words = show_desk(desk).split(" ")
            for _ in range(source.randint(1, 3)):
                at, other = source.randrange(len(words)), source.randrange(len(words))
                if source.random() < 0.5:
                    words[at], words[other] = words[other], words[at]
                else:
                    words[at] = words[other]
            text = " ".join(words)
            readable += has_desk(text)
            self.assert_read_where_told(read_desk, show_desk, has_desk, text)
        self.assertGreater(readable, 50)

    def with_rest(self, words):
        return f"({FEW_TEXT}) rest {words} free 0 most any"

    def test_rest_checks(self):
        self.assertEqual(read_desk(self.with_rest("2: 0;")).checks, [("rest", 2, [0])])
        for words in [
            "1: 1;", "0: 1;", "-2: 1;", "-9999999: 1;", "02: 1;", "+2: 1;", "2: -0;", "2: 01;", "2: +1;", "2: 00;",
            "2: -01;", "2:;", "2: ;", "2:", "2", "", ";", "2: 1", "2 1;", "2 : 1;", "2:1;", "2:  1;", "2: 1 ;",
            "2: 1; ", "2: 1  2;", "2:: 1;", "2: 1:;", "2: 1;;", "2: 1, 2;", " 2: 1;", "any: 1;", "2: any;", "2: 1.5;",
            "2; 1:", "(2: 1;)", "2: --1;", "12345678: 1;", "2: 12345678;", "2: -12345678;", "2: 10000000;",
            "2: 1; rest 1: 1;", "2: 1;rest 2: 1;", "2: " + "9" * 60 + ";", "9" * 5000 + ": 1;",
            "2: -" + "9" * 5000 + ";", "2: 1 -;", "2: 1- 1;", "-: 1;",
        ]:
            self.assert_no_desk(self.with_rest(words))
        for words in ["9999999: 9999999 -9999999;", "2: -1;", "1000000: 0 0 0;"]:
            self.assertEqual(show_desk(read_desk(self.with_rest(words))), self.with_rest(words))

    def test_no_checks(self):
        for word in [
            "none", "counts", "Count", "coun", "COUNT", "count;", "count:", "count()", "rest", "copy", "copy()",
            "copy ()", "copies", f"copy {BAR_TEXT}", f"copy ({BAR_TEXT}", f"copy {BAR_TEXT})", f"copy({BAR_TEXT})",
            f"({BAR_TEXT})", f"copy  ({BAR_TEXT})", f"copy (({BAR_TEXT}))", f"copy ({BAR_TEXT});",
            f"copy [{BAR_TEXT}]", "raised", "free 0", "most 1", "1", ";", "", "countcount", "count  count",
            "count count ", "free", "most", "any", "rest count",
        ]:
            self.assert_no_desk(f"({FEW_TEXT}) {word} free 0 most any")
        text = f"({FEW_TEXT}) count count copy ({FEW_TEXT}) free 0 most any"
        self.assertEqual(read_desk(text).checks, [("count",), ("count",), ("copy", Style(FEW))])

    def test_limits(self):
        for limits in [
            "free -1 most any", "free 0 most 0", "free 0 most -1", "free 00 most 1", "free 0 most 01",
            "free -0 most 1", "free +1 most 1", "free 0 most +1", "free 12345678 most 1", "free 0 most 12345678",
            "free most 1", "free 0 most", "free 0", "most 1", "", "free 0 most ", "free  most 1", "free 0 most 1 ",
            "free 0 most any most any", "most 1 free 0", "free 0 free 0", "free None most 1", "free any most None",
            "free Any most any", "free 0, most 1", "free 0 most 1 2", "free any most any any",
            "free 0 most 1; raised", "free 0 1 most 1", "free 0  most 1", "free 0 most 1  raised",
            "free 0 most 1raised", "free 0 most 1 raised ", "free 0 most 1 raised raised", "free 0 most 1 Raised",
            "free 0 most 1 raise", "free 0 most 1 True", "free 0 raised most 1", "raised free 0 most 1",
            "free 0 most 1 count", "free 0 most 1 not", "free 0 most 1 raised count", "free 0 last 1",
            "limit 0 most 1", "free " + "9" * 60 + " most 1", "free 0 most " + "9" * 5000, "free 0 most 1)",
            "free 0 most -",
        ]:
            self.assert_no_desk(f"({FEW_TEXT}) {limits}")
            self.assert_no_desk(f"({FEW_TEXT}) count {limits}")
        for limits in ["free 9999999 most 9999999", "free any most 1 raised", "free 1000000 most any"]:
            self.assertEqual(show_desk(read_desk(f"({FEW_TEXT}) count {limits}")), f"({FEW_TEXT}) count {limits}")

    def test_brackets_and_ends(self):
        for text in [
            f"{FEW_TEXT} free 0 most any", f"({FEW_TEXT} free 0 most any", f"{FEW_TEXT}) free 0 most any",
            f"[{FEW_TEXT}) free 0 most any", f"({FEW_TEXT}] free 0 most any", f"(({FEW_TEXT})) free 0 most any",
            f" ({FEW_TEXT}) free 0 most any", f"({FEW_TEXT})  free 0 most any", f"({FEW_TEXT})free 0 most any",
            f"( {FEW_TEXT}) free 0 most any", f"({FEW_TEXT} ) free 0 most any", f"({FEW_TEXT})", f"({FEW_TEXT}) ",
            f"({FEW_TEXT}) free", f"({FEW_TEXT}) free ", "", " ", "(", ")", "()", "() free 0 most any",
            "free 0 most any",
            " free 0 most any", f"({FEW_TEXT})({FEW_TEXT}) free 0 most any", f"x({FEW_TEXT}) free 0 most any",
        ]:
            self.assert_no_desk(text)

    def test_all_beginnings_and_ends(self):
        for at in range(len(DESK_TEXT)):
            for text in [DESK_TEXT[:at], DESK_TEXT[at + 1:], DESK_TEXT + DESK_TEXT[:at + 1]]:
                self.assert_read_where_told(read_desk, show_desk, has_desk, text)


class LargeTest(ReadingCase):
    def test_desks_with_many_checks(self):
        weights = [[(-1) ** at * (10 ** (at // 3) + row) for at in range(20)] for row in range(8)]
        checks = "".join([f" rest {modulus}:{''.join(f' {weight}' for weight in row)};"
                          for modulus, row in zip(range(9999992, 10000000), weights)])
        text = f"({FEW_TEXT}){checks} free any most any raised"
        desk, other = read_desk(text), read_desk(text)
        self.assertIs(desk == other, True)
        self.assertIs(desk != other, False)
        self.assertEqual(show_desk(desk), text)
        self.assertEqual([check[2] for check in desk.checks], weights)
        self.assertEqual([check[1] for check in desk.checks], list(range(9999992, 10000000)))
        self.assertEqual((desk.style, desk.free, desk.most, desk.raised), (Style(FEW), None, None, True))
        self.assertEqual(desk.period, 20)
        longer = desk.with_checks(desk.checks)
        self.assertEqual(len(longer.checks), 16)
        self.assertEqual(read_desk(show_desk(longer)), longer)
        narrow = desk.with_limits(free=2, most=3, raised=False).with_style(Style(BARS))
        self.assertEqual(show_desk(narrow), f"({BAR_TEXT}){checks} free 2 most 3")
        self.assertNotEqual(narrow, desk)
        self.assertEqual(narrow.with_limits(free=None, most=None, raised=True).with_style(desk.style), desk)
        self.assertEqual(Desk(desk.style, desk.checks[:6]).with_checks(desk.checks[6:]).checks, desk.checks)

    def test_period_of_what_is_read(self):
        rows = "".join([f" rest 1000000:{' 7' * many};" for many in [12, 11, 10, 9, 8, 7]])
        self.assertEqual(read_desk(f"({FEW_TEXT}){rows} free 0 most 1").period, 27720)

    def test_eight_copies(self):
        checks = "".join([f" copy ({show_style(style)})" for style in (SHOWN * 2)[:8]])
        desk = read_desk(f"({FEW_TEXT}){checks} free 1 most 2")
        self.assertEqual([check[1] for check in desk.checks], (SHOWN * 2)[:8])
        self.assertEqual(desk.period, 1)
        self.assertEqual(show_desk(desk), f"({FEW_TEXT}){checks} free 1 most 2")

    def test_styles_with_many_strokes(self):
        shapes = [list(range(1 + figure, 100 - figure)) for figure in range(10)]
        text = "; ".join([" ".join([str(stroke) for stroke in shape]) for shape in shapes])
        style = read_style(text)
        self.assertEqual(style.shapes, shapes)
        self.assertEqual(show_style(style), text)
        self.assertEqual([style.becomes(figure) for figure in [0, 1, 9]], [[], [0], list(range(9))])
        self.assertEqual([style.cost(9, 0), style.cost(0, 9), style.cost(None, 0)], [18, None, 99])
        self.assertEqual(style[9], list(range(10, 91)))
        self.assertIs(style.within(Style(LAMPS)), False)
        self.assertIs(Style(BARS).within(style), True)
        other = style.redrawn(0, [99])
        self.assertEqual(other.becomes(0), [])
        self.assertEqual(read_style(show_style(other)), other)
        self.assertNotEqual(other, style)
        self.assertEqual(other.redrawn(0, shapes[0]), style)
        desk = read_desk(f"({text}) copy ({show_style(other)}) free 0 most any")
        self.assertEqual((desk.style, desk.checks), (style, [("copy", other)]))

    def test_long_texts(self):
        shapes = [list(range(1 + figure, 100 - figure)) for figure in range(10)]
        style = show_style(Style(shapes))
        text = f"({style}){f' copy ({style})' * 6} free 0 most any"
        self.assertGreater(len(text), 15000)
        self.assertEqual(show_desk(read_desk(text)), text)
        for part in [
            "(", ")", " ", ";", "1", "1 ", "1; ", " count", " rest 2: 1;", " copy (", "~", "-", "-1 ", " free 0 most ",
        ]:
            for text in [part * (20000 // len(part)), f"({FEW_TEXT})" + part * (19900 // len(part))]:
                self.assert_unreadable(read_style, text)
                self.assert_unreadable(read_desk, text)
        self.assertEqual(len(read_desk(f"({FEW_TEXT}){' count' * 3000} free 0 most any").checks), 3000)


class FreshTest(unittest.TestCase):
    def test_lists_are_new(self):
        desk, other = read_desk(DESK_TEXT), read_desk(DESK_TEXT)
        desk.checks[0][2].append(3)
        desk.checks.clear()
        desk.style.shapes[0].append(5)
        self.assertEqual(desk, other)
        self.assertEqual(show_desk(desk), DESK_TEXT)


if __name__ == "__main__":
    unittest.main()
