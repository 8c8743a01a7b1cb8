"""The classes of paygaps.errors, as the interface tells them."""

import unittest

from paygaps import errors
from tests.helping import KINDS


class Classes(unittest.TestCase):
    def test_pay_error_stands_below_value_error(self):
        self.assertEqual(errors.PayError.__bases__, (ValueError,))

    def test_each_other_one_stands_directly_below_pay_error(self):
        self.assertEqual(len(KINDS), 10)
        for name in KINDS:
            with self.subTest(name):
                self.assertEqual(getattr(errors, name).__bases__, (errors.PayError,))

    def test_none_stands_below_another(self):
        for name in KINDS:
            for other in KINDS:
                below = issubclass(getattr(errors, name), getattr(errors, other))
                self.assertEqual(below, name == other, (name, other))

    def test_values_are_set_when_the_object_is_made(self):
        self.assertEqual(errors.Shared(6).share, 6)
        unclosed = errors.Unclosed(3, 4)
        self.assertEqual((unclosed.one, unclosed.other), (3, 4))

    def test_two_objects_keep_their_own_values(self):
        first, second = errors.Shared(2), errors.Shared(3)
        self.assertEqual((first.share, second.share), (2, 3))
