"""The interface of weighwords.errors."""

import unittest

from tests.things import KINDS
from weighwords.errors import WeighError


class ErrorsTest(unittest.TestCase):
    def test_any_refusal_is_a_value_error(self):
        self.assertEqual(WeighError.__bases__, (ValueError,))
        self.assertEqual(WeighError.__name__, "WeighError")

    def test_each_kind_is_straight_under_weigh_error(self):
        names = ["Nought", "NoText", "NoRow", "NoMachine", "NoWord", "OtherSigns", "TooMany"]
        self.assertEqual([kind.__name__ for kind in KINDS], names)
        for kind in KINDS:
            with self.subTest(kind.__name__):
                self.assertEqual(kind.__bases__, (WeighError,))

    def test_none_is_caught_as_another(self):
        for kind in KINDS:
            for other in KINDS:
                self.assertEqual(issubclass(kind, other), kind is other)


if __name__ == "__main__":
    unittest.main()
