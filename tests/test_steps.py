"""leaf_follows, body_follows and inner_pairs: points 1, 19 and 20."""

import copy
import unittest

from schemabridge.steps import body_follows, inner_pairs, leaf_follows
from tests.building import CHOICE, FARTHEST, NUMBER, TEXT, defaults, may_have, needs, record, union

OPEN = ("choice", (), (), True)


def closed(*symbols):
    return ("choice", symbols, (), False)


def opened(symbols, retired=()):
    return ("choice", symbols, retired, True)


class Checks(unittest.TestCase):
    def assert_leaf(self, old, new, *, holds):
        self.assertIs(leaf_follows(old, new), holds, (old, new))
        # Two leaves that meet count for the bodies in which they meet.
        self.assertIs(body_follows(("list", old, 0, 5), ("list", new, 0, 5)), holds)
        self.assertIs(body_follows(record(may_have(old, 3)), record(may_have(new, 3))), holds)
        self.assertIs(body_follows(union((4, old)), union((4, new))), holds)

    def assert_body(self, old, new, *, holds):
        self.assertIs(body_follows(old, new), holds, (old, new))


class Leaves(Checks):
    def test_kinds(self):
        leaves = (NUMBER, TEXT, CHOICE)
        for old in leaves:
            for new in leaves:
                self.assert_leaf(old, new, holds=old == new)
        self.assert_leaf(("number", 0, 5), ("text", 0, 5), holds=False)
        self.assert_leaf(("text", 0, 5), ("number", 0, 5), holds=False)

    def test_ranges(self):
        for kind in ("number", "text"):
            old = (kind, 3, 7)
            for low, high in ((3, 7), (2, 7), (3, 8), (0, 40), (2, 8)):
                self.assert_leaf(old, (kind, low, high), holds=True)
            for low, high in ((4, 7), (3, 6), (4, 6), (2, 6), (4, 8), (0, 2), (8, 9), (0, 6), (4, 40), (7, 7), (3, 3)):
                self.assert_leaf(old, (kind, low, high), holds=False)

    def test_ranges_of_numbers_below_0(self):
        old = ("number", -7, -3)
        for low, high in ((-7, -3), (-8, -3), (-7, -2), (-FARTHEST, FARTHEST)):
            self.assert_leaf(old, ("number", low, high), holds=True)
        for low, high in ((-6, -3), (-7, -4), (3, 7), (-6, FARTHEST), (-FARTHEST, -4)):
            self.assert_leaf(old, ("number", low, high), holds=False)

    def test_live_symbols_stay_or_are_retired(self):
        self.assert_leaf(closed(2, 4), closed(2, 4), holds=True)
        self.assert_leaf(closed(2, 4), closed(1, 2, 3, 4, 5), holds=True)
        self.assert_leaf(closed(2, 4), opened((2,), (4,)), holds=True)
        self.assert_leaf(closed(2, 4), opened((), (2, 4)), holds=True)
        self.assert_leaf(closed(2, 4), opened((3,), (2, 4, 9)), holds=True)
        self.assert_leaf(closed(2, 4), closed(2), holds=False)
        self.assert_leaf(closed(2, 4), closed(4), holds=False)
        self.assert_leaf(closed(2, 4), opened((2,)), holds=False)
        self.assert_leaf(closed(2, 4), opened((2,), (3,)), holds=False)
        self.assert_leaf(closed(2, 4), OPEN, holds=False)
        self.assert_leaf(opened((2, 4)), opened((4,), (3,)), holds=False)

    def test_retired_symbols_stay_retired(self):
        old = opened((2,), (4, 6))
        self.assert_leaf(old, opened((2,), (4, 6)), holds=True)
        self.assert_leaf(old, opened((2, 3), (1, 4, 5, 6)), holds=True)
        self.assert_leaf(old, opened((), (2, 4, 6)), holds=True)
        self.assert_leaf(old, opened((2,), (4,)), holds=False)
        self.assert_leaf(old, opened((2,), (6,)), holds=False)
        self.assert_leaf(old, opened((2, 4), (6,)), holds=False)
        self.assert_leaf(old, opened((2, 6), (4,)), holds=False)
        self.assert_leaf(old, opened((2,)), holds=False)

    def test_an_open_choice_stays_open(self):
        self.assert_leaf(opened((2,)), opened((2,)), holds=True)
        self.assert_leaf(closed(2), opened((2,)), holds=True)
        self.assert_leaf(closed(2), closed(2), holds=True)
        self.assert_leaf(opened((2,)), closed(2), holds=False)
        self.assert_leaf(opened((2,)), closed(2, 3), holds=False)
        self.assert_leaf(OPEN, closed(2), holds=False)
        self.assert_leaf(OPEN, OPEN, holds=True)


class Kinds(Checks):
    def test_bodies_of_different_kinds(self):
        bodies = (("list", NUMBER, 0, 5), record(), union(is_open=True))
        for old in bodies:
            for new in bodies:
                self.assert_body(old, new, holds=old == new)
        self.assert_body(record(may_have(NUMBER)), union((1, NUMBER)), holds=False)
        self.assert_body(union((1, NUMBER)), record(needs(NUMBER)), holds=False)


class Lists(Checks):
    def test_ranges(self):
        for part in (NUMBER, "a"):
            old = ("list", part, 3, 7)
            for low, high in ((3, 7), (2, 7), (3, 8), (0, 99)):
                self.assert_body(old, ("list", part, low, high), holds=True)
            for low, high in ((4, 7), (3, 6), (4, 6), (2, 6), (4, 8), (0, 6), (4, 99), (8, 9), (0, 2)):
                self.assert_body(old, ("list", part, low, high), holds=False)

    def test_parts(self):
        self.assert_body(("list", NUMBER, 0, 5), ("list", ("number", -1, 9), 0, 5), holds=True)
        self.assert_body(("list", NUMBER, 0, 5), ("list", ("number", 1, 9), 0, 5), holds=False)
        self.assert_body(("list", NUMBER, 0, 5), ("list", TEXT, 0, 5), holds=False)
        self.assert_body(("list", "a", 0, 5), ("list", "b", 0, 5), holds=True)
        self.assert_body(("list", "a", 0, 5), ("list", NUMBER, 0, 5), holds=False)
        self.assert_body(("list", NUMBER, 0, 5), ("list", "a", 0, 5), holds=False)


class IdsOfRecordsAndUnions(Checks):
    def assert_ids(self, old_live, old_retired, new_live, new_retired, *, holds):
        old = union(*((number, NUMBER) for number in old_live), retired=old_retired, is_open=True)
        new = union(*((number, NUMBER) for number in new_live), retired=new_retired, is_open=True)
        self.assert_body(old, new, holds=holds)
        old = record(*(may_have(NUMBER, number) for number in old_live), retired=old_retired)
        new = record(*(may_have(NUMBER, number) for number in new_live), retired=new_retired)
        self.assert_body(old, new, holds=holds)
        self.assert_leaf(opened(old_live, old_retired), opened(new_live, new_retired), holds=holds)

    def test_live_ids_stay_or_are_retired(self):
        self.assert_ids((2, 4), (), (2, 4), (), holds=True)
        self.assert_ids((2, 4), (), (1, 2, 3, 4, 5), (), holds=True)
        self.assert_ids((2, 4), (), (2,), (4,), holds=True)
        self.assert_ids((2, 4), (), (), (2, 4), holds=True)
        self.assert_ids((2, 4), (), (3,), (1, 2, 4), holds=True)
        self.assert_ids((2, 4), (), (2,), (), holds=False)
        self.assert_ids((2, 4), (), (4,), (), holds=False)
        self.assert_ids((2, 4), (), (4, 5), (1,), holds=False)
        self.assert_ids((2, 4), (), (), (2,), holds=False)
        self.assert_ids((2, 4), (), (), (), holds=False)

    def test_retired_ids_stay_retired(self):
        self.assert_ids((2,), (4, 6), (2,), (4, 6), holds=True)
        self.assert_ids((2,), (4, 6), (1, 2), (3, 4, 5, 6), holds=True)
        self.assert_ids((), (4, 6), (), (4, 6), holds=True)
        self.assert_ids((2,), (4, 6), (2,), (4,), holds=False)
        self.assert_ids((2,), (4, 6), (2,), (6,), holds=False)
        self.assert_ids((2,), (4, 6), (2, 4), (6,), holds=False)
        self.assert_ids((2,), (4, 6), (2, 6), (4,), holds=False)
        self.assert_ids((), (4,), (4,), (), holds=False)
        self.assert_ids((), (4,), (), (), holds=False)

    def test_new_ids(self):
        self.assert_ids((), (), (2,), (4,), holds=True)
        self.assert_ids((), (), (), (4,), holds=True)


class Records(Checks):
    def test_modes_of_a_field_that_is_live_in_both(self):
        modes = {"required": needs(NUMBER, 3), "optional": may_have(NUMBER, 3), "default": defaults(NUMBER, 7, 3)}
        allowed = {
            "required": ("required", "optional", "default"), "optional": ("optional", "default"),
            "default": ("default",)}
        for old in modes:
            for new in modes:
                self.assert_body(record(modes[old]), record(modes[new]), holds=new in allowed[old])

    def test_defaults_stay_the_same(self):
        self.assert_body(record(defaults(NUMBER, 7)), record(defaults(NUMBER, 7)), holds=True)
        self.assert_body(record(defaults(NUMBER, 7)), record(defaults(("number", -5, 50), 7)), holds=True)
        self.assert_body(record(defaults(NUMBER, 7)), record(defaults(NUMBER, 8)), holds=False)
        self.assert_body(record(defaults(NUMBER, 7)), record(defaults(NUMBER, 0)), holds=False)
        self.assert_body(record(defaults(NUMBER, 0)), record(defaults(NUMBER, 7)), holds=False)
        self.assert_body(record(defaults(TEXT, "ab")), record(defaults(TEXT, "ab")), holds=True)
        self.assert_body(record(defaults(TEXT, "ab")), record(defaults(TEXT, "abc")), holds=False)
        self.assert_body(record(needs(NUMBER)), record(defaults(NUMBER, 3)), holds=True)
        self.assert_body(record(may_have(NUMBER)), record(defaults(NUMBER, 3)), holds=True)

    def test_modes_of_a_field_that_is_live_in_the_new_record_alone(self):
        for old in (record(), record(needs(TEXT, 1))):
            new = old[1]
            self.assert_body(old, record(*new, may_have(NUMBER, 3)), holds=True)
            self.assert_body(old, record(*new, defaults(NUMBER, 7, 3)), holds=True)
            self.assert_body(old, record(*new, needs(NUMBER, 3)), holds=False)
            self.assert_body(old, record(*new, may_have(NUMBER, 3), needs(NUMBER, 4)), holds=False)

    def test_a_field_that_is_live_in_the_old_record_alone(self):
        for field in (needs(NUMBER, 3), may_have(NUMBER, 3), defaults(NUMBER, 7, 3)):
            self.assert_body(record(field), record(retired=(3,)), holds=True)
            self.assert_body(record(field), record(), holds=False)

    def test_each_field_counts(self):
        old = record(needs(NUMBER, 1), may_have(NUMBER, 2), defaults(NUMBER, 7, 3))
        self.assert_body(old, record(may_have(NUMBER, 1), may_have(NUMBER, 2), defaults(NUMBER, 7, 3)), holds=True)
        self.assert_body(old, record(needs(NUMBER, 1), needs(NUMBER, 2), defaults(NUMBER, 7, 3)), holds=False)
        self.assert_body(old, record(needs(NUMBER, 1), may_have(NUMBER, 2), defaults(NUMBER, 8, 3)), holds=False)
        self.assert_body(old, record(needs(NUMBER, 1), may_have(NUMBER, 2), may_have(NUMBER, 3)), holds=False)

    def test_parts(self):
        self.assert_body(record(needs("a"), needs(NUMBER, 2)), record(needs("b"), needs(NUMBER, 2)), holds=True)
        self.assert_body(record(needs("a"), needs(NUMBER, 2)), record(needs("b"), needs(TEXT, 2)), holds=False)
        self.assert_body(record(needs("a"), needs(NUMBER, 2)), record(needs("b"), needs("b", 2)), holds=False)
        self.assert_body(record(needs("a"), needs(NUMBER, 2)), record(needs(NUMBER), needs(NUMBER, 2)), holds=False)

    def test_parts_of_fields_that_do_not_meet(self):
        self.assert_body(record(needs("a", 1), needs(NUMBER, 2)), record(needs("b", 1), retired=(2,)), holds=True)
        self.assert_body(record(needs("a", 1)), record(needs("b", 1), may_have(TEXT, 2)), holds=True)


class Unions(Checks):
    def test_an_open_union_stays_open(self):
        self.assert_body(union((1, NUMBER), is_open=True), union((1, NUMBER), is_open=True), holds=True)
        self.assert_body(union((1, NUMBER)), union((1, NUMBER), is_open=True), holds=True)
        self.assert_body(union((1, NUMBER)), union((1, NUMBER)), holds=True)
        self.assert_body(union((1, NUMBER), is_open=True), union((1, NUMBER)), holds=False)
        self.assert_body(union(is_open=True), union((1, NUMBER)), holds=False)

    def test_closed_unions(self):
        self.assert_body(union((1, NUMBER)), union((1, NUMBER), (2, TEXT)), holds=True)
        self.assert_body(union((1, NUMBER), (2, TEXT)), union((1, NUMBER)), holds=False)
        self.assert_body(union((1, NUMBER), (2, TEXT)), union((1, NUMBER), retired=(2,), is_open=True), holds=True)

    def test_parts(self):
        self.assert_body(union((1, "a"), (2, NUMBER)), union((1, "b"), (2, NUMBER)), holds=True)
        self.assert_body(union((1, "a"), (2, NUMBER)), union((1, "b"), (2, ("number", 0, 8))), holds=False)
        self.assert_body(union((1, "a"), (2, NUMBER)), union((1, TEXT), (2, NUMBER)), holds=False)
        self.assert_body(union((1, "a"), (2, NUMBER)), union((1, "a"), (2, "a")), holds=False)
        self.assert_body(
            union((1, "a"), (2, NUMBER)), union((1, "b"), (3, TEXT), retired=(2,), is_open=True), holds=True)


class InnerPairs(unittest.TestCase):
    def assert_pairs(self, old, new, *expected):
        found = inner_pairs(old, new)
        self.assertEqual(found, expected)
        self.assertIs(found.__class__, tuple)
        self.assertTrue(all(pair.__class__ is tuple for pair in found))

    def test_lists(self):
        self.assert_pairs(("list", NUMBER, 0, 5), ("list", "a", 2, 3), (0, NUMBER, "a"))
        self.assert_pairs(("list", "a", 0, 5), ("list", "b", 0, 5), (0, "a", "b"))
        self.assert_pairs(("list", CHOICE, 0, 5), ("list", TEXT, 0, 5), (0, CHOICE, TEXT))

    def test_records(self):
        old = record(needs(NUMBER, 1), may_have("a", 3), defaults(TEXT, "abc", 5), needs("b", 7), retired=(9,))
        new = record(
            may_have("c", 3), needs("a", 4), needs(NUMBER, 5), may_have("b", 7), may_have(TEXT, 9), retired=(1,))
        self.assert_pairs(old, new, (3, "a", "c"), (5, TEXT, NUMBER), (7, "b", "b"))
        self.assert_pairs(new, old, (3, "c", "a"), (5, NUMBER, TEXT), (7, "b", "b"))
        self.assert_pairs(record(), new)
        self.assert_pairs(old, record())
        self.assert_pairs(record(needs(NUMBER, 1)), record(needs(NUMBER, 2)))

    def test_unions(self):
        old = union((1, NUMBER), (3, "a"), (5, "b"), retired=(2, 4), is_open=True)
        new = union((2, NUMBER), (3, TEXT), (4, "a"), (5, "c"), retired=(1,), is_open=True)
        self.assert_pairs(old, new, (3, "a", TEXT), (5, "b", "c"))
        self.assert_pairs(new, old, (3, TEXT, "a"), (5, "c", "b"))
        self.assert_pairs(union(is_open=True), new)
        self.assert_pairs(old, union(is_open=True))

    def test_many_ids_are_ascending(self):
        numbers = range(1, 100)
        old = record(*(may_have("a", number) for number in numbers))
        new = record(*(may_have("b", number) for number in numbers if number % 3))
        self.assert_pairs(old, new, *((number, "a", "b") for number in numbers if number % 3))

    def test_bodies_of_different_kinds(self):
        bodies = (("list", "a", 0, 5), record(needs("a", 1)), union((1, "a")))
        for old in bodies:
            for new in bodies:
                if old[0] != new[0]:
                    self.assert_pairs(old, new)


class Arguments(unittest.TestCase):
    def test_arguments_stay_as_they_were(self):
        old = record(needs(CHOICE, 1), may_have("a", 3), retired=(9,))
        new = record(needs(CHOICE, 1), may_have("b", 3), retired=(4, 9))
        before = copy.deepcopy((old, new))
        for _ in range(2):
            self.assertIs(leaf_follows(old[1][0][1], new[1][0][1]), True)
            self.assertIs(body_follows(old, new), True)
            self.assertEqual(inner_pairs(old, new), ((1, CHOICE, CHOICE), (3, "a", "b")))
        self.assertEqual((old, new), before)


class Interface(unittest.TestCase):
    def test_each_function_is_defined_in_its_module(self):
        for function in (leaf_follows, body_follows, inner_pairs):
            self.assertEqual(function.__module__, "schemabridge.steps")

    def test_parameters_have_the_names_of_the_document(self):
        self.assertIs(leaf_follows(old_leaf=NUMBER, new_leaf=NUMBER), True)
        self.assertIs(body_follows(old_body=record(), new_body=record()), True)
        self.assertEqual(inner_pairs(old_body=record(), new_body=record()), ())


if __name__ == "__main__":
    unittest.main()
