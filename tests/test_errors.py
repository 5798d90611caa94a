import unittest

from addedink import errors
from addedink.errors import InkError

BELOW = [
    errors.InvalidStroke, errors.EmptyShape, errors.DoubleShape, errors.InvalidFigure, errors.InvalidCheck,
    errors.InvalidLimit, errors.InvalidAmount, errors.NotGood, errors.Unbounded, errors.InvalidCell,
    errors.StrokeStands, errors.NothingToUndo, errors.Unreadable,
]
ALL = [InkError] + BELOW


def values():
    return [
        None, True, False, 0, -1, 10 ** 59 - 1, -(10 ** 58), 7 ** 6000, "", "text", b"bytes", [], [1, [2, [3]]], (),
        (1, [2], ("rest", 2, [3])), {}, {"a": [1, {"b": (2,)}]}, {1, 2}, object(), ValueError("inner"), InkError,
        ["changed"],
    ]


def raised(error):
    raise error


class ErrorsTest(unittest.TestCase):
    def test_there_are_fourteen(self):
        self.assertEqual(len({error.__name__ for error in ALL}), 14)

    def test_value_is_stored_itself_by_position(self):
        for error in ALL:
            for value in values():
                self.assertIs(error(value).value, value)

    def test_value_is_stored_itself_by_name(self):
        for error in ALL:
            for value in values():
                self.assertIs(error(value=value).value, value)

    def test_value_follows_a_list_that_is_changed_later(self):
        for error in ALL:
            told = [1, [2]]
            made = error(told)
            told.append(3)
            told[1].append(4)
            self.assertEqual(made.value, [1, [2, 4], 3])

    def test_exactly_one_argument(self):
        for error in ALL:
            with self.assertRaises(TypeError):
                error()
            with self.assertRaises(TypeError):
                error(1, 2)
            with self.assertRaises(TypeError):
                error(other=1)

    def test_bases(self):
        self.assertEqual(InkError.__bases__, (ValueError,))
        for error in BELOW:
            self.assertEqual(error.__bases__, (InkError,))

    def test_of_which_classes_each_is_an_object(self):
        for error in ALL:
            made = error(1)
            self.assertIsInstance(made, ValueError)
            self.assertIsInstance(made, InkError)
            for other in BELOW:
                self.assertEqual(isinstance(made, other), other is error)
            for other in (KeyError, IndexError, LookupError, TypeError, ArithmeticError, RuntimeError):
                self.assertNotIsInstance(made, other)

    def test_raised_ones_are_caught(self):
        for error in ALL:
            for caught in (error, InkError, ValueError):
                made = error([1])
                with self.assertRaises(caught) as context:
                    raised(made)
                self.assertIs(context.exception, made)

    def test_raised_ones_are_not_caught_by_sisters(self):
        for error in ALL:
            for other in BELOW:
                if other is not error:
                    with self.assertRaises(error):
                        try:
                            raised(error(1))
                        except other:
                            pass

    def test_two_objects_keep_their_own_values(self):
        for error in ALL:
            first, second = error(1), error(2)
            self.assertEqual((first.value, second.value), (1, 2))


if __name__ == "__main__":
    unittest.main()
