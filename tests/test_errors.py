import unittest

from coarseviews import errors
from coarseviews.errors import CoarseError, NotClosed, TooMany

PLAIN = ("NoMany", "NoSet", "NoLabels", "NoEdge", "NoDeed", "NoScale", "NoStep", "OtherStates", "NotBelow", "NoText")


class ErrorsTest(unittest.TestCase):

    def test_base(self):
        self.assertEqual(CoarseError.__bases__, (ValueError,))

    def test_direct_subclasses(self):
        for name in PLAIN + ("NotClosed", "TooMany"):
            made = getattr(errors, name)
            self.assertEqual(made.__bases__, (CoarseError,), name)
            self.assertEqual((made.__name__, made.__module__), (name, "coarseviews.errors"))

    def test_no_class_stands_for_another(self):
        found = [getattr(errors, name) for name in PLAIN + ("NotClosed", "TooMany")]
        self.assertEqual(len(set(found)), 12)

    def test_any_message(self):
        for name in PLAIN:
            with self.assertRaises(CoarseError):
                raise getattr(errors, name)("a message")

    def test_not_closed_has_its_fields(self):
        error = NotClosed((0, 1), (1, 2))
        self.assertEqual((error.first, error.second), ((0, 1), (1, 2)))
        named = NotClosed(first=(0,), second=(1,))
        self.assertEqual((named.first, named.second), ((0,), (1,)))

    def test_too_many_has_its_fields(self):
        error = TooMany(11, 10)
        self.assertEqual((error.amount, error.limit), (11, 10))
        named = TooMany(amount=12, limit=10)
        self.assertEqual((named.amount, named.limit), (12, 10))
