"""That names stand where the interface lists them, and that the package is laid out as it must be."""

import inspect
import os
import unittest

from addedink import amounts, desks, errors, fields, lots, pages, readings, styles, texts, unseen

PACKAGE = os.path.dirname(os.path.abspath(errors.__file__))

CLASSES = [
    (errors, [
        "InkError", "InvalidStroke", "EmptyShape", "DoubleShape", "InvalidFigure", "InvalidCheck", "InvalidLimit",
        "InvalidAmount", "NotGood", "Unbounded", "InvalidCell", "StrokeStands", "NothingToUndo", "Unreadable",
    ]),
    (styles, ["Style"]),
    (desks, ["Desk"]),
    (fields, ["Field"]),
]

FUNCTIONS = [
    (amounts.is_good, "addedink.amounts", "(desk, amount)"),
    (amounts.is_possible, "addedink.amounts", "(desk, amount, altered)"),
    (amounts.is_unseen, "addedink.amounts", "(desk, amount, altered)"),
    (amounts.altered_cells, "addedink.amounts", "(amount, altered)"),
    (amounts.price, "addedink.amounts", "(desk, amount, altered)"),
    (amounts.check_figures, "addedink.amounts", "(desk, amount)"),
    (unseen.first_unseen, "addedink.unseen", "(desk)"),
    (unseen.least_price, "addedink.unseen", "(desk)"),
    (unseen.cheapest, "addedink.unseen", "(desk)"),
    (unseen.closed, "addedink.unseen", "(desk)"),
    (unseen.judge_closed, "addedink.unseen", "(desk, told)"),
    (unseen.unseen_alterations, "addedink.unseen", "(desk, amount)"),
    (unseen.sources, "addedink.unseen", "(desk, seen)"),
    (unseen.likeliest, "addedink.unseen", "(desk, seen)"),
    (lots.is_sure, "addedink.lots", "(desk)"),
    (lots.least_checks, "addedink.lots", "(desk, offered)"),
    (lots.least_redraws, "addedink.lots", "(desk, offered)"),
    (pages.is_page_sure, "addedink.pages", "(desk)"),
    (pages.altered_page, "addedink.pages", "(desk)"),
    (pages.judge_page, "addedink.pages", "(desk, told)"),
    (texts.show_style, "addedink.texts", "(style)"),
    (texts.show_desk, "addedink.texts", "(desk)"),
    (readings.read_style, "addedink.readings", "(text)"),
    (readings.read_desk, "addedink.readings", "(text)"),
]


class InterfaceTest(unittest.TestCase):
    def test_each_class_is_defined_in_its_file(self):
        for module, names in CLASSES:
            for name in names:
                with self.subTest(name=name):
                    self.assertTrue(inspect.isclass(getattr(module, name)))
                    self.assertEqual(getattr(module, name).__module__, module.__name__)

    def test_each_function_is_defined_in_its_file(self):
        for function, module, parameters in FUNCTIONS:
            with self.subTest(function=function):
                self.assertTrue(inspect.isfunction(function))
                self.assertEqual(function.__module__, module)
                self.assertEqual(str(inspect.signature(function)), parameters)

    def test_methods_stand_in_the_class_itself(self):
        own = vars(styles.Style)
        for name in ["becomes", "cost", "within", "redrawn", "__getitem__", "__eq__"]:
            self.assertTrue(inspect.isfunction(own[name]), name)
        own = vars(desks.Desk)
        for name in ["with_checks", "with_style", "with_limits", "__eq__"]:
            self.assertTrue(inspect.isfunction(own[name]), name)
        own = vars(fields.Field)
        for name in ["__call__", "strokes", "left", "write", "undo", "__len__", "__eq__"]:
            self.assertTrue(inspect.isfunction(own[name]), name)

    def test_properties_stand_in_the_class_itself_and_are_only_read(self):
        style = styles.Style([[stroke] for stroke in range(1, 11)])
        desk = desks.Desk(style, [])
        field = fields.Field(desk, [1])
        listed = [
            (style, ["shapes"]), (desk, ["style", "checks", "free", "most", "raised", "period"]),
            (field, ["seen", "shows_unseen"]),
        ]
        for thing, names in listed:
            for name in names:
                with self.subTest(name=name):
                    self.assertIsInstance(vars(type(thing))[name], property)
                    with self.assertRaises(AttributeError):
                        setattr(thing, name, getattr(thing, name))

    def test_parameters(self):
        listed = [
            (styles.Style, "(shapes)"),
            (styles.Style.becomes, "(self, figure)"),
            (styles.Style.cost, "(self, figure, other)"),
            (styles.Style.within, "(self, other)"),
            (styles.Style.redrawn, "(self, figure, strokes)"),
            (desks.Desk, "(style, checks, *, free=0, most=None, raised=False)"),
            (desks.Desk.with_checks, "(self, checks)"),
            (desks.Desk.with_style, "(self, style)"),
            (desks.Desk.with_limits, "(self, *, free, most, raised)"),
            (fields.Field, "(desk, amount)"),
            (fields.Field.__call__, "(self, cell, stroke)"),
            (fields.Field.strokes, "(self, cell)"),
            (fields.Field.left, "(self)"),
            (fields.Field.write, "(self, rows)"),
            (fields.Field.undo, "(self)"),
        ]
        for thing, parameters in listed:
            with self.subTest(thing=thing):
                self.assertEqual(str(inspect.signature(thing)), parameters)

    def test_the_package_holds_plain_sources_only(self):
        for name in os.listdir(PACKAGE):
            if name == "__pycache__":
                continue
            self.assertTrue(name.endswith(".py"), name)
            with open(os.path.join(PACKAGE, name), "rb") as source:
                data = source.read()
            self.assertTrue(all(sign == 10 or 32 <= sign <= 126 for sign in data), name)
            lines = data.split(b"\n")
            self.assertLessEqual(len(lines), 400, name)
            self.assertLessEqual(max(len(line) for line in lines), 120, name)


if __name__ == "__main__":
    unittest.main()
