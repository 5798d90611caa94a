import unittest

from addedink.errors import InkError


class ErrorCase(unittest.TestCase):
    def assert_fails(self, error, value, call, *rest, **more):
        """Check the very class and the value of an error; return the value."""
        with self.assertRaises(InkError) as context:
            call(*rest, **more)
        self.assertIs(type(context.exception), error)
        self.assertEqual(context.exception.value, value)
        self.assertIs(type(context.exception.value), type(value))
        return context.exception.value

    def assert_copies(self, error, amount, call, *rest, **more):
        """Check that an error has a copy of an amount."""
        self.assertIsNot(self.assert_fails(error, list(amount), call, *rest, **more), amount)
