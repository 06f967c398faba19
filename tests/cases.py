"""What several test files ask in the same way."""

import unittest


class Case(unittest.TestCase):
    def raises(self, error, given, action):
        """Whether an action raises just this error, with what was given in its attribute."""
        with self.subTest(repr(given)[:60], error=error.__name__):
            with self.assertRaises(error) as caught:
                action()
            self.assertIs(type(caught.exception), error)
            self.assertIs(caught.exception.given, given)
