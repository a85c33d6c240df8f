"""Points 2 and 5 and the part of point 8 that speaks of leaves."""

import unittest

from schemabridge.leaves import is_leaf_value, is_valid_leaf, simple_leaf_value

FARTHEST = 10 ** 15
# What stands where another kind of value is due.
STRANGE = (None, (), (1,), ("a",), (0, None), ((1, 1),), "", "a", "1", 0, 1, 5)


class Checks(unittest.TestCase):
    def assert_valid(self, leaf):
        self.assertIs(is_valid_leaf(leaf), True, leaf)

    def assert_invalid(self, leaf):
        self.assertIs(is_valid_leaf(leaf), False, leaf)

    def assert_value(self, leaf, value):
        self.assertIs(is_leaf_value(leaf, value), True, (leaf, value))

    def assert_no_value(self, leaf, value):
        self.assertIs(is_leaf_value(leaf, value), False, (leaf, value))


class ValidNumbersAndTexts(Checks):
    def test_numbers_up_to_the_bounds(self):
        self.assert_valid(("number", -FARTHEST, FARTHEST))
        self.assert_valid(("number", -FARTHEST, -FARTHEST))
        self.assert_valid(("number", FARTHEST, FARTHEST))
        self.assert_valid(("number", 0, 0))
        self.assert_valid(("number", -7, -3))
        self.assert_valid(("number", 3, 7))

    def test_numbers_beyond_the_bounds(self):
        self.assert_invalid(("number", -FARTHEST - 1, 0))
        self.assert_invalid(("number", 0, FARTHEST + 1))
        self.assert_invalid(("number", FARTHEST + 1, FARTHEST + 1))
        self.assert_invalid(("number", -FARTHEST - 1, -FARTHEST - 1))
        self.assert_invalid(("number", -10 ** 40, 10 ** 40))

    def test_numbers_with_low_above_high(self):
        self.assert_invalid(("number", 1, 0))
        self.assert_invalid(("number", 0, -1))
        self.assert_invalid(("number", FARTHEST, -FARTHEST))

    def test_texts_up_to_the_bounds(self):
        self.assert_valid(("text", 0, 40))
        self.assert_valid(("text", 0, 0))
        self.assert_valid(("text", 40, 40))
        self.assert_valid(("text", 3, 9))

    def test_texts_beyond_the_bounds(self):
        self.assert_invalid(("text", -1, 40))
        self.assert_invalid(("text", -1, -1))
        self.assert_invalid(("text", 0, 41))
        self.assert_invalid(("text", 41, 41))

    def test_texts_with_low_above_high(self):
        self.assert_invalid(("text", 1, 0))
        self.assert_invalid(("text", 40, 39))


class ValidChoices(Checks):
    def test_ordinary_choices(self):
        for is_open in (False, True):
            self.assert_valid(("choice", (1,), (), is_open))
            self.assert_valid(("choice", (1, 5, 9), (), is_open))
            self.assert_valid(("choice", (1, 99), (), is_open))
            self.assert_valid(("choice", tuple(range(1, 100)), (), is_open))

    def test_open_choices_with_retired_ids(self):
        self.assert_valid(("choice", (2, 4), (1, 3, 99), True))
        self.assert_valid(("choice", (), (1, 99), True))
        self.assert_valid(("choice", tuple(range(1, 50)), tuple(range(50, 100)), True))

    def test_open_choice_without_symbols(self):
        self.assert_valid(("choice", (), (), True))

    def test_closed_choice_without_symbols(self):
        self.assert_invalid(("choice", (), (), False))

    def test_closed_choice_with_retired_ids(self):
        self.assert_invalid(("choice", (1, 2), (3,), False))
        self.assert_invalid(("choice", (), (3,), False))

    def test_symbols_in_the_wrong_order(self):
        for is_open in (False, True):
            self.assert_invalid(("choice", (2, 1), (), is_open))
            self.assert_invalid(("choice", (1, 3, 2), (), is_open))
            self.assert_invalid(("choice", (2, 1, 3), (), is_open))

    def test_retired_ids_in_the_wrong_order(self):
        self.assert_invalid(("choice", (9,), (2, 1), True))
        self.assert_invalid(("choice", (9,), (1, 3, 2), True))

    def test_repeated_ids(self):
        for is_open in (False, True):
            self.assert_invalid(("choice", (1, 1), (), is_open))
            self.assert_invalid(("choice", (1, 2, 2), (), is_open))
            self.assert_invalid(("choice", (1, 2, 1), (), is_open))
        self.assert_invalid(("choice", (), (4, 4), True))
        self.assert_invalid(("choice", (1,), (4, 5, 5), True))

    def test_common_ids(self):
        self.assert_invalid(("choice", (1,), (1,), True))
        self.assert_invalid(("choice", (1, 2, 3), (3, 4), True))
        self.assert_invalid(("choice", (1, 5), (2, 3, 4, 5, 6), True))

    def test_ids_out_of_range(self):
        for is_open in (False, True):
            for wrong in (0, 100, -1, 1000):
                self.assert_invalid(("choice", (wrong,), (), is_open))
            self.assert_invalid(("choice", (0, 1), (), is_open))
            self.assert_invalid(("choice", (1, 100), (), is_open))
        for wrong in (0, 100, -1, 1000):
            self.assert_invalid(("choice", (), (wrong,), True))
            self.assert_invalid(("choice", (7,), (wrong,), True))


class Values(Checks):
    def test_numbers(self):
        for low, high in ((-7, -3), (-3, 7), (0, 0), (3, 7), (-FARTHEST, FARTHEST)):
            leaf = ("number", low, high)
            self.assert_value(leaf, low)
            self.assert_value(leaf, high)
            self.assert_value(leaf, (low + high) // 2)
            self.assert_no_value(leaf, low - 1)
            self.assert_no_value(leaf, high + 1)

    def test_other_kinds_are_no_numbers(self):
        for strange in STRANGE:
            if not isinstance(strange, int):
                self.assert_no_value(("number", -9, 9), strange)

    def test_lengths_of_texts(self):
        for low, high in ((0, 0), (0, 40), (1, 1), (2, 5), (40, 40)):
            leaf = ("text", low, high)
            self.assert_value(leaf, "x" * low)
            self.assert_value(leaf, "x" * high)
            self.assert_no_value(leaf, "x" * (high + 1))
            if low > 0:
                self.assert_no_value(leaf, "x" * (low - 1))

    def test_a_text_with_each_allowed_character(self):
        leaf = ("text", 1, 1)
        for code in range(32, 127):
            if chr(code) != "%":
                self.assert_value(leaf, chr(code))
        self.assert_value(("text", 0, 40), " ~az AZ 09 !\"#$&'()*+,-./:;<=>?@[\\]^_`")

    def test_characters_that_are_not_allowed(self):
        for wrong in ("\t", "\n", "%", "\x1f", "\x7f"):
            self.assert_no_value(("text", 1, 1), wrong)
            self.assert_no_value(("text", 0, 9), wrong + "ab")
            self.assert_no_value(("text", 0, 9), "a" + wrong + "b")
            self.assert_no_value(("text", 0, 9), "ab" + wrong)

    def test_other_kinds_are_no_texts(self):
        for strange in STRANGE:
            if not isinstance(strange, str):
                self.assert_no_value(("text", 0, 9), strange)

    def test_symbols_of_a_closed_choice(self):
        leaf = ("choice", (2, 5, 99), (), False)
        for symbol in (2, 5, 99):
            self.assert_value(leaf, symbol)
        for other in (-1, 0, 1, 3, 4, 6, 98, 100):
            self.assert_no_value(leaf, other)

    def test_symbols_of_an_open_choice(self):
        leaf = ("choice", (2, 5, 99), (1, 7), True)
        for symbol in (0, 2, 5, 99):
            self.assert_value(leaf, symbol)
        for other in (-1, 1, 3, 7, 98, 100):
            self.assert_no_value(leaf, other)

    def test_open_choice_without_symbols(self):
        self.assert_value(("choice", (), (), True), 0)
        self.assert_no_value(("choice", (), (), True), 1)
        self.assert_value(("choice", (), (3,), True), 0)
        self.assert_no_value(("choice", (), (3,), True), 3)

    def test_other_kinds_are_no_symbols(self):
        for is_open in (False, True):
            for strange in STRANGE:
                if not isinstance(strange, int):
                    self.assert_no_value(("choice", (1, 5), (), is_open), strange)

    def test_a_deep_tuple_is_no_value(self):
        deep = ()
        for _ in range(200):
            deep = (deep,)
        for leaf in (("number", 0, 9), ("text", 0, 9), ("choice", (1,), (), True)):
            self.assert_no_value(leaf, deep)


class SimpleValues(unittest.TestCase):
    def assert_simple(self, leaf, value):
        found = simple_leaf_value(leaf)
        self.assertEqual(found, value)
        self.assertIs(found.__class__, value.__class__)
        self.assertIs(is_leaf_value(leaf, found), True)

    def test_numbers(self):
        self.assert_simple(("number", -9, -4), -4)
        self.assert_simple(("number", 4, 9), 4)
        self.assert_simple(("number", -4, 9), 0)
        self.assert_simple(("number", -9, 4), 0)
        self.assert_simple(("number", 0, 9), 0)
        self.assert_simple(("number", -9, 0), 0)
        self.assert_simple(("number", 1, 1), 1)
        self.assert_simple(("number", -1, -1), -1)
        self.assert_simple(("number", -FARTHEST, FARTHEST), 0)
        self.assert_simple(("number", FARTHEST, FARTHEST), FARTHEST)
        self.assert_simple(("number", -FARTHEST, -FARTHEST), -FARTHEST)

    def test_texts(self):
        self.assert_simple(("text", 0, 40), "")
        self.assert_simple(("text", 1, 5), "a")
        self.assert_simple(("text", 3, 3), "aaa")
        self.assert_simple(("text", 40, 40), "a" * 40)

    def test_choices_with_symbols(self):
        self.assert_simple(("choice", (4, 6, 8), (), False), 4)
        self.assert_simple(("choice", (4, 6, 8), (), True), 4)
        self.assert_simple(("choice", (4,), (1, 2), True), 4)
        self.assert_simple(("choice", (99,), (), False), 99)

    def test_choices_without_symbols(self):
        self.assert_simple(("choice", (), (), True), 0)
        self.assert_simple(("choice", (), (1, 2), True), 0)


class Interface(unittest.TestCase):
    def test_each_function_is_defined_in_its_module(self):
        for function in (is_valid_leaf, is_leaf_value, simple_leaf_value):
            self.assertEqual(function.__module__, "schemabridge.leaves")


if __name__ == "__main__":
    unittest.main()
