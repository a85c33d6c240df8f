"""The error classes: their bases and their attributes."""

import unittest

from schemabridge import errors
from schemabridge.errors import BadOctets, BridgeError, Clash, Refused, Unreadable

PLAIN = (
    "InvalidSchema", "InvalidValue", "InvalidCertificate", "TooLarge", "UnknownVersion",
    "UnknownHost", "UnknownLetter", "UnknownSlot", "NoRoute", "PowerLost")
WITH_ATTRIBUTES = ("BadOctets", "Unreadable", "Clash", "Refused")


class Bases(unittest.TestCase):
    def test_the_base_class_is_a_value_error(self):
        self.assertEqual(BridgeError.__bases__, (ValueError,))

    def test_each_class_is_a_direct_subclass_of_the_base_class(self):
        for name in PLAIN + WITH_ATTRIBUTES:
            with self.subTest(name=name):
                self.assertEqual(getattr(errors, name).__bases__, (BridgeError,))

    def test_each_class_is_defined_here_under_its_own_name(self):
        for name in PLAIN + WITH_ATTRIBUTES + ("BridgeError",):
            with self.subTest(name=name):
                found = getattr(errors, name)
                self.assertEqual((found.__name__, found.__module__), (name, "schemabridge.errors"))

    def test_each_plain_class_is_raised_with_a_text(self):
        for name in PLAIN:
            with self.subTest(name=name):
                with self.assertRaises(BridgeError) as caught:
                    raise getattr(errors, name)("a text")
                self.assertEqual(caught.exception.__class__.__name__, name)


class Attributes(unittest.TestCase):
    def test_bad_octets(self):
        error = BadOctets(3, "range")
        self.assertEqual((error.at, error.reason), (3, "range"))

    def test_unreadable(self):
        error = Unreadable((1, 0, 7), "missing")
        self.assertEqual((error.path, error.reason), ((1, 0, 7), "missing"))

    def test_unreadable_at_the_outermost_part(self):
        error = Unreadable((), "kind")
        self.assertEqual((error.path, error.reason), ((), "kind"))

    def test_clash(self):
        self.assertEqual(Clash(2).depth, 2)
        self.assertEqual(Clash(0).depth, 0)

    def test_refused(self):
        schema = ("a", (("a", ("list", ("number", 0, 0), 0, 1)),))
        error = Refused(4, (schema, schema, (0,)))
        self.assertEqual((error.parent, error.counterexample), (4, (schema, schema, (0,))))

    def test_each_object_has_its_own_attributes(self):
        first = BadOctets(0, "end")
        second = BadOctets(9, "rest")
        self.assertEqual((first.at, first.reason), (0, "end"))
        self.assertEqual((second.at, second.reason), (9, "rest"))

    def test_the_attributes_are_those_of_the_error_that_is_caught(self):
        with self.assertRaises(BridgeError) as caught:
            raise Unreadable((5,), "case")
        self.assertEqual((caught.exception.path, caught.exception.reason), ((5,), "case"))


if __name__ == "__main__":
    unittest.main()
