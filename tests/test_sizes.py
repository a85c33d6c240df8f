"""depth, value_count and simple_value: points 6, 8 and 9."""

import copy
import unittest

from schemabridge.schemas import is_valid, least_depths
from schemabridge.values import depth, is_message, is_of, simple_value, value_count
from tests.building import (
    CHOICE, DEEP, FARTHEST, LISTS, NUMBER, TEXT, UNIONS, deep_lists, deep_unions, defaults, may_have, needs, numbers,
    record, schema, tuples_only, union)

TREE = schema(
    a=record(needs(NUMBER, 1), may_have("b", 2), defaults(TEXT, "abc", 3)), b=("list", "c", 0, 5),
    c=union((1, "a"), (2, "b"), (3, TEXT), is_open=True))


class Depths(unittest.TestCase):
    def assert_depth(self, part, value, expected, within=TREE):
        self.assertIs(is_of(within, part, value), True)
        self.assertEqual(depth(within, part, value), expected)

    def test_leaves(self):
        for leaf, value in ((NUMBER, 5), (TEXT, "abc"), (CHOICE, 1), (("choice", (), (), True), 0)):
            self.assert_depth(leaf, value, 0)

    def test_values_without_values_in_them(self):
        self.assert_depth("b", (), 1)
        self.assert_depth("c", (0, None), 1)
        self.assert_depth("a", (), 1, within=schema(a=record(may_have("a"))))

    def test_values_of_leaves_alone(self):
        self.assert_depth("a", ((1, 5), (3, "ab")), 1)
        self.assert_depth("c", (3, "ab"), 1)
        self.assert_depth("a", (1, 2, 3), 1, within=schema(a=numbers(0)))

    def test_values_in_values(self):
        self.assert_depth("c", (2, ()), 2)
        self.assert_depth("a", ((1, 5), (2, ()), (3, "ab")), 2)
        self.assert_depth("b", ((0, None),), 2)
        self.assert_depth("b", ((2, ((3, "ab"),)),), 4)

    def test_the_deepest_value_counts(self):
        shallow = (3, "ab")
        deep = (2, ((1, ((1, 5), (3, "ab"))),))
        self.assert_depth("b", (deep,), 5)
        self.assert_depth("b", (shallow, deep), 5)
        self.assert_depth("b", (deep, shallow), 5)
        self.assert_depth("b", (shallow, deep, shallow, deep), 5)
        self.assert_depth("a", ((1, 5), (2, (deep, shallow)), (3, "ab")), 6)

    def test_chains(self):
        for within, deep in DEEP:
            for levels in (1, 2, 80, 81, 95):
                self.assert_depth("a", deep(levels), levels, within=within)
        self.assert_depth("a", deep_lists(200), 200, within=LISTS)
        self.assert_depth("a", deep_unions(200), 200, within=UNIONS)


class Counts(unittest.TestCase):
    def assert_count(self, part, value, expected, within=TREE):
        self.assertIs(is_of(within, part, value), True)
        self.assertEqual(value_count(within, part, value), expected)

    def test_leaves(self):
        for leaf, value in ((NUMBER, 5), (TEXT, "abc"), (CHOICE, 1)):
            self.assert_count(leaf, value, 1)

    def test_values_without_values_in_them(self):
        self.assert_count("b", (), 1)
        self.assert_count("c", (0, None), 1)
        self.assert_count("a", (), 1, within=schema(a=record(may_have("a"))))

    def test_lists(self):
        within = schema(a=numbers(0), b=("list", "a", 0, 99))
        self.assert_count("a", (5,), 2, within=within)
        self.assert_count("a", (5,) * 99, 100, within=within)
        self.assert_count("b", ((5, 5, 5), (), (5,)), 8, within=within)
        self.assert_count("b", ((5,) * 99,) * 99, 1 + 99 * 100, within=within)

    def test_records_count_their_fields_as_one_each(self):
        self.assert_count("a", ((1, 5), (3, "ab")), 3)
        self.assert_count("a", ((1, 5), (2, ()), (3, "ab")), 4)

    def test_unions(self):
        self.assert_count("c", (3, "ab"), 2)
        self.assert_count("c", (2, ()), 2)
        self.assert_count("c", (2, ((0, None), (3, "ab"))), 5)

    def test_values_in_values(self):
        inner = (1, ((1, 5), (2, ((3, "ab"), (0, None))), (3, "ab")))
        self.assert_count("c", inner, 8)
        self.assert_count("b", (inner, inner, (2, ())), 19)

    def test_chains(self):
        for within, deep in DEEP:
            for levels in (1, 2, 80, 81, 95):
                self.assert_count("a", deep(levels), levels, within=within)
        self.assert_count("a", deep_lists(200), 200, within=LISTS)


class SimpleValues(unittest.TestCase):
    def assert_simple(self, found, part, expected):
        self.assertIs(is_valid(found), True)
        value = simple_value(found, part)
        self.assertEqual(value, expected)
        self.assertTrue(tuples_only(value))
        self.assertIs(is_of(found, part, value), True)

    def test_leaves(self):
        found = schema(a=record())
        self.assert_simple(found, ("number", -9, -4), -4)
        self.assert_simple(found, ("number", 4, 9), 4)
        self.assert_simple(found, ("number", -4, 9), 0)
        self.assert_simple(found, ("number", FARTHEST, FARTHEST), FARTHEST)
        self.assert_simple(found, ("text", 3, 9), "aaa")
        self.assert_simple(found, ("text", 0, 9), "")
        self.assert_simple(found, ("choice", (4, 5), (1,), True), 4)
        self.assert_simple(found, ("choice", (), (1,), True), 0)

    def test_lists(self):
        found = schema(a=("list", "b", 0, 9), b=("list", TEXT, 3, 9), c=("list", "b", 2, 2), d=("list", "d", 0, 5))
        self.assert_simple(found, "a", ())
        self.assert_simple(found, "b", ("aa", "aa", "aa"))
        self.assert_simple(found, "c", (("aa", "aa", "aa"),) * 2)
        self.assert_simple(found, "d", ())

    def test_records(self):
        found = schema(
            a=record(needs(TEXT, 2), may_have(TEXT, 4), defaults(NUMBER, 7, 6), needs("b", 8), retired=(3,)),
            b=record(), c=record(may_have("c")), d=record(needs("a", 1), may_have("d", 2)))
        self.assert_simple(found, "a", ((2, "aa"), (6, 7), (8, ())))
        self.assert_simple(found, "b", ())
        self.assert_simple(found, "c", ())
        self.assert_simple(found, "d", ((1, ((2, "aa"), (6, 7), (8, ()))),))

    def test_defaults_that_are_not_simple_values(self):
        found = schema(a=record(
            defaults(NUMBER, 9, 1), defaults(("number", -9, 9), -9, 2), defaults(TEXT, "hello", 3),
            defaults(("text", 0, 9), "", 4), defaults(NUMBER, 0, 5)))
        self.assert_simple(found, "a", ((1, 9), (2, -9), (3, "hello"), (4, ""), (5, 0)))

    def test_open_unions(self):
        found = schema(
            a=union((1, NUMBER), (2, "b"), is_open=True), b=record(), c=union(is_open=True),
            d=union((1, "d"), is_open=True), e=record(needs("a")))
        for part in ("a", "c", "d"):
            self.assert_simple(found, part, (0, None))
        self.assert_simple(found, "e", ((1, (0, None)),))

    def test_the_case_with_the_least_depth(self):
        found = schema(
            a=union((1, "d"), (2, "c"), (3, "b")), b=record(), c=record(needs("b")), d=record(needs("c")),
            e=union((1, "d"), (2, "c")), f=union((2, "b"), (3, "c")))
        self.assert_simple(found, "a", (3, ()))
        self.assert_simple(found, "e", (2, ((1, ()),)))
        self.assert_simple(found, "f", (2, ()))

    def test_a_leaf_has_the_least_depth(self):
        found = schema(a=union((1, "b"), (2, "b"), (3, TEXT), (4, NUMBER)), b=record())
        self.assert_simple(found, "a", (3, "aa"))

    def test_the_least_id_of_like_depths(self):
        found = schema(
            a=union((3, "c"), (5, "d"), (7, "e")), c=record(needs("d")), d=record(needs(NUMBER)),
            e=("list", TEXT, 1, 1), f=union((3, "e"), (5, "d")), g=union((4, TEXT), (6, NUMBER)), h=union((2, "a"), (9, "f")))
        self.assert_simple(found, "a", (5, ((1, 0),)))
        self.assert_simple(found, "f", (3, ("aa",)))
        self.assert_simple(found, "g", (4, "aa"))
        self.assert_simple(found, "h", (2, (5, ((1, 0),))))

    def test_unions_of_themselves(self):
        found = schema(a=union((1, "a"), (2, "b")), b=union((1, "a"), (2, "b"), (3, "c")), c=record())
        self.assert_simple(found, "a", (2, (3, ())))
        self.assert_simple(found, "b", (3, ()))

    def test_a_definition_that_the_root_does_not_reach(self):
        self.assert_simple(schema(a=record(), b=numbers(2)), "b", (0, 0))

    def test_depths_are_the_least_depths(self):
        chain = schema(
            a=("list", "b", 1, 1), b=record(needs("c")), c=union((1, "d")), d=record(needs("e")), e=("list", "f", 2, 3),
            f=record(needs("g")), g=record(needs("h")), h=record(needs(NUMBER)))
        found = schema(
            a=union((1, "b"), (2, "c"), (3, "d")), b=record(needs("e"), may_have("a", 2)), c=("list", "d", 1, 4),
            d=union((1, "e"), (2, "d")), e=("list", "f", 0, 4), f=record(needs("ff"), defaults(NUMBER, 3, 5)),
            ff=union((1, "a"), is_open=True))
        for each in (chain, found, TREE, LISTS, UNIONS):
            for name, least in least_depths(each).items():
                self.assertEqual(depth(each, name, simple_value(each, name)), least, name)

    def test_no_value_has_a_smaller_depth(self):
        found = schema(a=union((1, "b"), (2, "c")), b=record(needs("c")), c=("list", "d", 1, 2), d=record())
        least = depth(found, "a", simple_value(found, "a"))
        for value in ((1, ((1, ((),)),)), (2, ((),)), (2, ((), ())), (1, ((1, ((), ())),))):
            self.assertIs(is_of(found, "a", value), True)
            self.assertLessEqual(least, depth(found, "a", value))

    def test_simple_values_up_to_100_values(self):
        for found, part, count in (
                (schema(a=numbers(99)), "a", 100), (schema(a=("list", "b", 1, 1), b=numbers(98)), "a", 100),
                (schema(a=("list", "b", 9, 9), b=numbers(10)), "a", 100), (schema(a=numbers(0)), "a", 1),
                (schema(a=union((1, "b")), b=numbers(98)), "a", 100), (schema(a=union((1, "b")), b=numbers(3)), "b", 4),
                (schema(a=record(*(defaults(NUMBER, 3, number) for number in range(1, 100)))), "a", 100)):
            value = simple_value(found, part)
            self.assertEqual(value_count(found, part, value), count)
            self.assertEqual(value_count(found, part, value) <= 100, is_valid(found))
            self.assertIs(is_of(found, part, value), True)

    def test_simple_values_of_roots_are_messages(self):
        for found in (TREE, LISTS, UNIONS, schema(a=numbers(99))):
            self.assertIs(is_message(found, simple_value(found, found[0])), True)


class Arguments(unittest.TestCase):
    def test_arguments_stay_as_they_were(self):
        value = ((1, 5), (2, ((3, "ab"), (0, None))), (3, "ab"))
        before = copy.deepcopy((TREE, value))
        for _ in range(2):
            self.assertIs(is_of(TREE, "a", value), True)
            self.assertIs(is_message(TREE, value), True)
            self.assertEqual(depth(TREE, "a", value), 3)
            self.assertEqual(value_count(TREE, "a", value), 7)
            self.assertEqual(simple_value(TREE, "a"), ((1, 0), (3, "abc")))
        self.assertEqual((TREE, value), before)


class Interface(unittest.TestCase):
    def test_each_function_is_defined_in_its_module(self):
        for function in (is_of, depth, is_message, simple_value, value_count):
            self.assertEqual(function.__module__, "schemabridge.values")

    def test_parameters_have_the_names_of_the_document(self):
        self.assertIs(is_of(schema=LISTS, part="a", value=()), True)
        self.assertEqual(depth(schema=LISTS, part="a", value=()), 1)
        self.assertIs(is_message(schema=LISTS, value=()), True)
        self.assertEqual(simple_value(schema=LISTS, part="a"), ())
        self.assertEqual(value_count(schema=LISTS, part="a", value=()), 1)


if __name__ == "__main__":
    unittest.main()
