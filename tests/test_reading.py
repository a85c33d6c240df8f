"""read_part, read and read_route: points 1 and 15 to 17."""

import copy
import unittest
from random import Random

from schemabridge.errors import BridgeError, InvalidValue, Unreadable
from schemabridge.reading import read, read_part, read_route
from schemabridge.values import depth, is_message, is_of
from tests.building import (
    CHOICE, DEEP, LISTS, NUMBER, RECORDS, TEXT, UNIONS, deep_lists, deep_unions, defaults, may_have, needs, record,
    schema, tuples_only, union)
from tests.sampling import draw_like, draw_pairs, draw_schema, draw_value

# One part of each kind and a value of it.
KINDS = (
    (NUMBER, 5), (TEXT, "abc"), (CHOICE, 1), ("list", ()), ("record", ()), ("union", (0, None)))
ALL = schema(list=("list", NUMBER, 0, 9), record=record(may_have(NUMBER)), union=union((1, NUMBER), is_open=True))


def wrapped(part):
    """Three ways to put a part into a schema, with how its value stands there and the steps to it."""
    return (
        (schema(a=("list", part, 0, 9), b=record(), e=union(is_open=True)), lambda value: (value,), (0,)),
        (schema(a=record(needs(part, 4)), b=record(), e=union(is_open=True)), lambda value: ((4, value),), (4,)),
        (schema(a=union((7, part)), b=record(), e=union(is_open=True)), lambda value: (7, value), (7,)))


class Checks(unittest.TestCase):
    def assert_read(self, old_part, new_part, value, expected, old=ALL, new=ALL):
        self.assertIs(is_of(old, old_part, value), True)
        found = read_part(old, new, old_part, new_part, value)
        self.assertEqual(found, expected)
        self.assertTrue(tuples_only(found))
        self.assertIs(is_of(new, new_part, found), True)
        self.assertLessEqual(depth(new, new_part, found), depth(old, old_part, value))

    def assert_unreadable(self, old_part, new_part, value, path, reason, old=ALL, new=ALL):
        self.assertIs(is_of(old, old_part, value), True)
        with self.assertRaises(Unreadable) as caught:
            read_part(old, new, old_part, new_part, value)
        self.assertEqual((caught.exception.path, caught.exception.reason), (path, reason))
        self.assertIs(caught.exception.path.__class__, tuple)


class Kinds(Checks):
    def test_each_pair_of_kinds(self):
        for old_part, value in KINDS:
            for new_part, _ in KINDS:
                if old_part == new_part:
                    self.assert_read(old_part, new_part, value, value)
                else:
                    self.assert_unreadable(old_part, new_part, value, (), "kind")

    def test_within_other_parts(self):
        for old_part, value in KINDS:
            old_part = {"list": "l", "record": "b", "union": "e"}.get(old_part, old_part)
            for new_part, _ in KINDS:
                new_part = {"list": "l", "record": "b", "union": "e"}.get(new_part, new_part)
                for (old, put, path), (new, _, _) in zip(wrapped(old_part), wrapped(new_part)):
                    old, new = self.with_list(old), self.with_list(new)
                    if old_part == new_part:
                        self.assert_read("a", "a", put(value), put(value), old, new)
                    else:
                        self.assert_unreadable("a", "a", put(value), path, "kind", old, new)

    def with_list(self, found):
        return (found[0], tuple(sorted(found[1] + (("l", ("list", TEXT, 0, 3)),))))

    def test_the_kind_of_a_name_is_that_of_its_body(self):
        old = schema(x=record(), y=union(is_open=True))
        new = schema(x=union(is_open=True), y=record())
        self.assert_read("x", "y", (), (), old, new)
        self.assert_read("y", "x", (0, None), (0, None), old, new)
        self.assert_unreadable("x", "x", (), (), "kind", old, new)
        self.assert_unreadable("y", "y", (0, None), (), "kind", old, new)

    def test_kinds_before_everything_else(self):
        old = schema(a=record(may_have(NUMBER)), b=("list", NUMBER, 0, 9))
        new = schema(a=record(needs(TEXT)), b=record(needs(TEXT)))
        self.assert_unreadable("b", "b", (5, 5), (), "kind", old, new)
        self.assert_unreadable("a", "a", ((1, 5),), (1,), "kind", old, new)
        self.assert_unreadable("a", "a", (), (1,), "missing", old, new)


class Leaves(Checks):
    def test_numbers(self):
        wide = ("number", -99, 99)
        for value in (-2, 0, 3):
            self.assert_read(wide, ("number", -2, 3), value, value)
            self.assert_read(("number", -2, 3), wide, value, value)
        for value in (-99, -3, 4, 99):
            self.assert_unreadable(wide, ("number", -2, 3), value, (), "range")

    def test_texts(self):
        wide = ("text", 0, 40)
        for value in ("ab", "~    ", "abc"):
            self.assert_read(wide, TEXT, value, value)
            self.assert_read(TEXT, wide, value, value)
        for value in ("", "a", "abcdef", "x" * 40):
            self.assert_unreadable(wide, TEXT, value, (), "range")

    def test_symbols_that_stay(self):
        old = ("choice", (1, 2, 3), (4,), True)
        for new in (("choice", (1, 2, 3), (), False), ("choice", (1, 2, 3, 9), (4,), True), old):
            for value in (1, 2, 3):
                self.assert_read(old, new, value, value)

    def test_symbols_that_an_open_choice_does_not_know(self):
        old = ("choice", (1, 2, 3), (), True)
        new = ("choice", (2, 4), (3,), True)
        for value, expected in ((0, 0), (1, 0), (2, 2), (3, 0)):
            self.assert_read(old, new, value, expected)
        self.assert_read(CHOICE, ("choice", (), (), True), 2, 0)

    def test_symbols_that_another_choice_does_not_know(self):
        old = ("choice", (1, 2, 3), (), True)
        new = ("choice", (2, 4), (), False)
        self.assert_read(old, new, 2, 2)
        for value in (0, 1, 3):
            self.assert_unreadable(old, new, value, (), "symbol")

    def test_no_step_for_the_symbol(self):
        pairs = zip(wrapped(("choice", (1, 2, 3), (), False)), wrapped(("choice", (1, 2), (), False)))
        for (old, put, path), (new, _, _) in pairs:
            self.assert_read("a", "a", put(2), put(2), old, new)
            self.assert_unreadable("a", "a", put(3), path, "symbol", old, new)

    def test_ranges_within_other_parts(self):
        for (old, put, path), (new, _, _) in zip(wrapped(("number", 0, 99)), wrapped(NUMBER)):
            self.assert_read("a", "a", put(9), put(9), old, new)
            self.assert_unreadable("a", "a", put(10), path, "range", old, new)


class Lists(Checks):
    OLD = schema(a=("list", ("number", 0, 99), 0, 9), b=("list", "a", 0, 9))
    NEW = schema(a=("list", NUMBER, 2, 4), b=("list", "a", 0, 2))

    def test_numbers_of_items(self):
        for value in ((1, 2), (3, 2, 1), (4, 4, 4, 4)):
            self.assert_read("a", "a", value, value, self.OLD, self.NEW)
        for value in ((), (1,), (1,) * 5, (1,) * 9):
            self.assert_unreadable("a", "a", value, (), "count", self.OLD, self.NEW)

    def test_items_in_their_order(self):
        self.assert_unreadable("a", "a", (10, 2), (0,), "range", self.OLD, self.NEW)
        self.assert_unreadable("a", "a", (1, 2, 99), (2,), "range", self.OLD, self.NEW)
        self.assert_unreadable("a", "a", (1, 10, 99), (1,), "range", self.OLD, self.NEW)

    def test_the_count_comes_before_the_items(self):
        self.assert_unreadable("a", "a", (10,), (), "count", self.OLD, self.NEW)
        self.assert_unreadable("b", "b", ((1, 10), (1, 2), (1, 2)), (), "count", self.OLD, self.NEW)

    def test_lists_in_lists(self):
        self.assert_read("b", "b", ((1, 2), (3, 4, 5)), ((1, 2), (3, 4, 5)), self.OLD, self.NEW)
        self.assert_unreadable("b", "b", ((1, 2), (3,)), (1,), "count", self.OLD, self.NEW)
        self.assert_unreadable("b", "b", ((1, 2), (3, 4, 10)), (1, 2), "range", self.OLD, self.NEW)
        self.assert_unreadable("b", "b", ((1, 10), (3,)), (0, 1), "range", self.OLD, self.NEW)

    def test_items_that_become_something_else(self):
        old = schema(a=("list", CHOICE, 0, 9))
        new = schema(a=("list", ("choice", (2,), (1,), True), 0, 9))
        self.assert_read("a", "a", (1, 2, 1, 2, 2), (0, 2, 0, 2, 2), old, new)


class Records(Checks):
    def assert_record(self, old_fields, new_fields, value, expected):
        self.assert_read("a", "a", value, expected, schema(a=record(*old_fields)), schema(a=record(*new_fields)))

    def assert_no_record(self, old_fields, new_fields, value, path, reason):
        self.assert_unreadable(
            "a", "a", value, path, reason, schema(a=record(*old_fields)), schema(a=record(*new_fields)))

    def test_fields_of_each_mode_that_are_there(self):
        for old in (needs(NUMBER, 3), may_have(NUMBER, 3), defaults(NUMBER, 7, 3)):
            for new in (needs(NUMBER, 3), may_have(NUMBER, 3), defaults(NUMBER, 8, 3)):
                self.assert_record((old,), (new,), ((3, 5),), ((3, 5),))

    def test_a_field_that_is_left_out(self):
        old = (may_have(NUMBER, 3),)
        self.assert_record(old, (may_have(NUMBER, 3),), (), ())
        self.assert_record(old, (defaults(NUMBER, 8, 3),), (), ((3, 8),))
        self.assert_no_record(old, (needs(NUMBER, 3),), (), (3,), "missing")

    def test_a_field_that_the_old_record_does_not_have(self):
        self.assert_record((), (may_have(NUMBER, 3),), (), ())
        self.assert_record((), (defaults(NUMBER, 8, 3),), (), ((3, 8),))
        self.assert_record((), (defaults(TEXT, "hello", 3),), (), ((3, "hello"),))
        self.assert_no_record((), (needs(NUMBER, 3),), (), (3,), "missing")
        self.assert_record((needs(NUMBER, 2),), (needs(NUMBER, 2), defaults(NUMBER, 8, 3)), ((2, 5),), ((2, 5), (3, 8)))

    def test_a_default_that_is_not_the_simple_value(self):
        self.assert_record((may_have(TEXT, 3),), (defaults(TEXT, "~~~", 3),), (), ((3, "~~~"),))
        self.assert_record((), (defaults(("number", -5, 5), -5, 3),), (), ((3, -5),))
        self.assert_record((), (defaults(("number", -5, 5), 0, 3),), (), ((3, 0),))
        self.assert_record((), (defaults(("text", 0, 5), "", 3),), (), ((3, ""),))

    def test_a_default_of_the_old_record_stays(self):
        self.assert_record((defaults(NUMBER, 7, 3),), (defaults(NUMBER, 8, 3),), ((3, 7),), ((3, 7),))

    def test_fields_that_the_new_record_does_not_have_are_dropped(self):
        old = (needs(NUMBER, 1), may_have(TEXT, 2), defaults(NUMBER, 7, 3), may_have("a", 4))
        value = ((1, 5), (2, "abc"), (3, 6), (4, ((1, 4), (3, 4))))
        self.assert_record(old, (), value, ())
        self.assert_record(old, (needs(NUMBER, 1),), value, ((1, 5),))
        self.assert_record(old, (may_have(TEXT, 2), needs(NUMBER, 3)), value, ((2, "abc"), (3, 6)))

    def test_what_is_dropped_is_not_read(self):
        # The same part would be unreadable in a field of the new record.
        self.assert_record((needs(TEXT, 2), needs(NUMBER, 3)), (needs(NUMBER, 3),), ((2, "ab"), (3, 4)), ((3, 4),))

    def test_retired_ids_of_the_new_record(self):
        old = schema(a=record(needs(TEXT, 2), needs(NUMBER, 3)))
        new = schema(a=record(needs(NUMBER, 3), retired=(2,)))
        self.assert_read("a", "a", ((2, "ab"), (3, 4)), ((3, 4),), old, new)

    def test_fields_by_ascending_ids(self):
        old = (may_have(NUMBER, 2), may_have(("number", 0, 99), 4), may_have(TEXT, 6))
        new = (needs(NUMBER, 2), needs(NUMBER, 4), needs(NUMBER, 6))
        self.assert_no_record(old, new, ((2, 1), (4, 50), (6, "ab")), (4,), "range")
        self.assert_no_record(old, new, ((4, 50), (6, "ab")), (2,), "missing")
        self.assert_no_record(old, new, ((2, 1), (6, "ab")), (4,), "missing")
        self.assert_no_record(old, new, ((2, 1), (4, 9), (6, "ab")), (6,), "kind")
        self.assert_no_record(old, new, ((2, 1), (4, 9)), (6,), "missing")
        self.assert_no_record(old, new, (), (2,), "missing")

    def test_a_place_far_inside_comes_before_a_field_that_is_missing(self):
        old = schema(
            a=record(needs("b", 1), may_have(NUMBER, 2)), b=("list", "c", 0, 5), c=union((3, ("number", 0, 99))))
        new = schema(a=record(needs("b", 1), needs(NUMBER, 2)), b=("list", "c", 0, 5), c=union((3, NUMBER)))
        self.assert_unreadable("a", "a", ((1, ((3, 5), (3, 10))),), (1, 1, 3), "range", old, new)
        self.assert_unreadable("a", "a", ((1, ((3, 5), (3, 9))),), (2,), "missing", old, new)
        self.assert_read("a", "a", ((1, ((3, 5), (3, 9))), (2, 0)), ((1, ((3, 5), (3, 9))), (2, 0)), old, new)

    def test_missing_fields_within_other_parts(self):
        for (old, put, path), (new, _, _) in zip(wrapped("b"), wrapped("b")):
            new = (new[0], tuple((name, record(needs(NUMBER, 8)) if name == "b" else body) for name, body in new[1]))
            self.assert_unreadable("a", "a", put(()), path + (8,), "missing", old, new)


class Unions(Checks):
    OLD = schema(a=union((1, NUMBER), (2, ("number", 0, 99)), (3, "a"), is_open=True))

    def test_cases_that_stay(self):
        for new in (
                schema(a=union((1, NUMBER), (2, ("number", 0, 99)), (3, "a"))),
                schema(a=union((1, NUMBER), (2, ("number", 0, 99)), (3, "a"), (9, TEXT), retired=(8,), is_open=True))):
            for value in ((1, 5), (2, 99), (3, (1, 9)), (3, (3, (2, 50)))):
                self.assert_read("a", "a", value, value, self.OLD, new)

    def test_values_of_cases_are_read(self):
        new = schema(a=union((1, ("number", 0, 5)), (2, NUMBER), (3, "a")))
        self.assert_read("a", "a", (2, 9), (2, 9), self.OLD, new)
        self.assert_unreadable("a", "a", (2, 10), (2,), "range", self.OLD, new)
        self.assert_unreadable("a", "a", (3, (3, (1, 6))), (3, 3, 1), "range", self.OLD, new)
        self.assert_unreadable("a", "a", (1, 5), (1,), "kind", self.OLD, schema(a=union((1, TEXT))))

    def test_cases_that_an_open_union_does_not_know(self):
        new = schema(a=union((1, NUMBER), (3, "a"), retired=(2,), is_open=True))
        self.assert_read("a", "a", (0, None), (0, None), self.OLD, new)
        self.assert_read("a", "a", (2, 5), (0, None), self.OLD, new)
        self.assert_read("a", "a", (3, (3, (2, 5))), (3, (3, (0, None))), self.OLD, new)
        self.assert_read("a", "a", (3, (0, None)), (0, None), self.OLD, schema(a=union((1, NUMBER), is_open=True)))
        self.assert_read("a", "a", (3, (1, 5)), (0, None), self.OLD, schema(a=union(is_open=True)))

    def test_cases_that_another_union_does_not_know(self):
        new = schema(a=union((1, NUMBER), (3, "a")))
        self.assert_read("a", "a", (3, (1, 5)), (3, (1, 5)), self.OLD, new)
        self.assert_unreadable("a", "a", (0, None), (), "case", self.OLD, new)
        self.assert_unreadable("a", "a", (2, 5), (), "case", self.OLD, new)
        self.assert_unreadable("a", "a", (3, (0, None)), (3,), "case", self.OLD, new)
        self.assert_unreadable("a", "a", (3, (3, (2, 5))), (3, 3), "case", self.OLD, new)

    def test_no_step_for_the_case(self):
        old = union((1, NUMBER), (2, NUMBER))
        for (one, put, path), (other, _, _) in zip(wrapped("e"), wrapped("e")):
            before = (one[0], tuple((name, old if name == "e" else body) for name, body in one[1]))
            after = (other[0], tuple((name, union((2, NUMBER)) if name == "e" else body) for name, body in other[1]))
            self.assert_unreadable("a", "a", put((1, 5)), path, "case", before, after)
            self.assert_read("a", "a", put((2, 5)), put((2, 5)), before, after)


class Places(Checks):
    def test_the_first_of_two_places(self):
        old = schema(
            a=record(may_have("b", 1), may_have("c", 2), may_have(("number", 0, 99), 3)), b=("list", "c", 0, 9),
            c=union((4, CHOICE), (5, "a"), (6, TEXT)))
        new = schema(
            a=record(needs("b", 1), may_have("c", 2), may_have(NUMBER, 3)), b=("list", "c", 0, 3),
            c=union((4, ("choice", (1,), (), False)), (5, "a")))
        good = (4, 1)
        self.assert_unreadable("a", "a", ((3, 50),), (1,), "missing", old, new)
        self.assert_unreadable("a", "a", ((1, ()), (3, 50)), (3,), "range", old, new)
        self.assert_unreadable("a", "a", ((1, ()), (2, (4, 2)), (3, 50)), (2, 4), "symbol", old, new)
        self.assert_unreadable("a", "a", ((1, (good, (6, "ab"), (4, 2))), (2, (4, 2))), (1, 1), "case", old, new)
        self.assert_unreadable(
            "a", "a", ((1, (good, (5, ((2, good),)), (4, 2))), (3, 50)), (1, 1, 5, 1), "missing", old, new)
        self.assert_unreadable("a", "a", ((1, (good,) * 4 + ((4, 2),)), (2, (4, 2))), (1,), "count", old, new)
        self.assert_unreadable(
            "a", "a", ((1, (good, (5, ((1, (good, (4, 2))),)))), (3, 50)), (1, 1, 5, 1, 1, 4), "symbol", old, new)

    def test_leaves_that_are_passed_as_parts(self):
        self.assert_read(("text", 0, 9), ("text", 3, 4), "abcd", "abcd", LISTS, RECORDS)
        self.assert_unreadable(("text", 0, 9), ("text", 3, 4), "ab", (), "range", LISTS, RECORDS)
        self.assert_unreadable("a", ("text", 3, 4), (), (), "kind", LISTS, RECORDS)
        self.assert_unreadable(("text", 3, 4), "a", "abc", (), "kind", LISTS, RECORDS)

    def test_different_names(self):
        old = schema(item=("list", NUMBER, 0, 5), note=record(needs("item"), may_have("note", 2)))
        new = schema(
            entry=record(needs("things"), may_have("entry", 2), defaults(TEXT, "hello", 3)),
            things=("list", NUMBER, 0, 9))
        self.assert_read(
            "note", "entry", ((1, (4, 5)), (2, ((1, ()),))),
            ((1, (4, 5)), (2, ((1, ()), (3, "hello"))), (3, "hello")), old, new)

    def test_deep_values(self):
        for found, deep in DEEP:
            for levels in (1, 80, 81, 95):
                self.assertEqual(read_part(found, found, "a", "a", deep(levels)), deep(levels))
        self.assertEqual(read_part(LISTS, LISTS, "a", "a", deep_lists(200)), deep_lists(200))
        self.assertEqual(read_part(UNIONS, UNIONS, "a", "a", deep_unions(200)), deep_unions(200))

    def test_places_far_inside(self):
        new = schema(a=union((3, "a")))
        self.assert_unreadable("a", "a", deep_unions(80), (3,) * 79, "case", UNIONS, new)
        new = schema(a=("list", "a", 1, 2))
        with self.assertRaises(Unreadable) as caught:
            read_part(LISTS, ("a", new[1]), "a", "a", deep_lists(200))
        self.assertEqual((caught.exception.path, caught.exception.reason), ((0,) * 199, "count"))


class Messages(Checks):
    OLD = schema(a=record(needs(("number", 0, 99), 1), may_have(TEXT, 2)))
    NEW = schema(a=record(needs(NUMBER, 1), defaults(NUMBER, 7, 3)))

    def test_messages(self):
        self.assertEqual(read(self.OLD, self.NEW, ((1, 5), (2, "ab"))), ((1, 5), (3, 7)))
        self.assertEqual(read(self.OLD, self.NEW, ((1, 9),)), ((1, 9), (3, 7)))

    def test_the_roots_meet(self):
        old = ("b", (("a", record()), ("b", ("list", NUMBER, 0, 5))))
        new = ("a", (("a", ("list", NUMBER, 0, 5)), ("b", record())))
        self.assertEqual(read(old, new, (1, 2)), (1, 2))

    def test_messages_that_can_not_be_read(self):
        with self.assertRaises(Unreadable) as caught:
            read(self.OLD, self.NEW, ((1, 10),))
        self.assertEqual((caught.exception.path, caught.exception.reason), ((1,), "range"))

    def test_what_is_no_message(self):
        for value in (
                None, 0, "", (), ((1, 100),), ((1, 5), (2, "a")), ((2, "ab"),), ((1, 5), (3, 7)), (0, None),
                ((1, 10), (2, 5))):
            self.assertRaises(InvalidValue, read, self.OLD, self.NEW, value)
            self.assertRaises(InvalidValue, read, self.OLD, UNIONS, value)

    def test_a_message_of_the_new_schema_is_no_message_of_the_old_one(self):
        self.assertRaises(InvalidValue, read, self.NEW, self.OLD, ((1, 5), (2, "ab")))
        self.assertRaises(InvalidValue, read, self.OLD, self.NEW, ((1, 5), (3, 7)))

    def test_80_and_81_levels(self):
        for found, deep in DEEP:
            self.assertEqual(read(found, found, deep(80)), deep(80))
            self.assertRaises(InvalidValue, read, found, found, deep(81))
            self.assertRaises(InvalidValue, read_route, (found,), deep(81))
            self.assertRaises(InvalidValue, read_route, (found, found), deep(81))

    def test_each_schema_reads_its_own_messages(self):
        for found, value in draw_pairs(150, 41):
            self.assertEqual(read(found, found, value), value)
            self.assertEqual(read_route([found], value), value)

    def test_what_comes_out_is_a_message(self):
        random = Random(43)
        read_at_all = 0
        for _ in range(400):
            old = draw_schema(random)
            new = draw_like(random, old)
            value = draw_value(random, old, old[0])
            try:
                found = read(old, new, value)
            except Unreadable as error:
                self.assertIn(error.reason, ("kind", "range", "symbol", "count", "missing", "case"))
            else:
                read_at_all += 1
                self.assertIs(is_message(new, found), True)
                self.assertLessEqual(depth(new, new[0], found), depth(old, old[0], value))
        self.assertGreater(read_at_all, 100)


class Routes(Checks):
    FIRST = schema(a=record(may_have(NUMBER, 1), may_have(NUMBER, 2)))
    SECOND = schema(a=record(may_have(NUMBER, 2), defaults(NUMBER, 7, 3)))
    THIRD = schema(a=record(defaults(NUMBER, 8, 1), may_have(NUMBER, 2), needs(NUMBER, 3)))

    def assert_unreadable_route(self, route, value, path, reason):
        for kind in (list, tuple):
            with self.assertRaises(Unreadable) as caught:
                read_route(kind(route), value)
            self.assertEqual((caught.exception.path, caught.exception.reason), (path, reason))

    def test_one_schema(self):
        for kind in (list, tuple):
            self.assertEqual(read_route(kind((self.FIRST,)), ((1, 5),)), ((1, 5),))

    def test_two_schemas(self):
        for kind in (list, tuple):
            self.assertEqual(read_route(kind((self.FIRST, self.SECOND)), ((1, 5), (2, 6))), ((2, 6), (3, 7)))

    def test_three_schemas(self):
        for kind in (list, tuple):
            route = kind((self.FIRST, self.SECOND, self.THIRD))
            # Field 1 is lost on the way, other than from the first schema to the third one.
            self.assertEqual(read_route(route, ((1, 5), (2, 6))), ((1, 8), (2, 6), (3, 7)))
            self.assertEqual(read_route(route, ()), ((1, 8), (3, 7)))
        with self.assertRaises(Unreadable):
            read(self.FIRST, self.THIRD, ((1, 5), (2, 6)))

    def test_a_schema_that_occurs_twice(self):
        self.assertEqual(read_route((self.FIRST, self.SECOND, self.FIRST), ((1, 5), (2, 6))), ((2, 6),))
        self.assertEqual(read_route((self.FIRST,) * 5, ((1, 5), (2, 6))), ((1, 5), (2, 6)))

    def test_100_schemas(self):
        route = [schema(a=("list", NUMBER, 0, high), b=record(retired=(high,))) for high in range(99, 0, -1)]
        self.assertEqual(len(route), 99)
        self.assertEqual(read_route(route + route[-1:], (5,)), (5,))
        self.assert_unreadable_route(route, (5, 6), (), "count")

    def test_the_first_step_that_can_not_be_read(self):
        route = [schema(a=record(may_have(("number", 0, high), 1), may_have(("text", 0, long), 2))) for high, long in (
            (99, 9), (99, 9), (50, 5), (10, 3))]
        self.assertEqual(read_route(route, ((1, 10), (2, "abc"))), ((1, 10), (2, "abc")))
        self.assert_unreadable_route(route, ((1, 20), (2, "abcdef")), (2,), "range")
        self.assert_unreadable_route(route, ((1, 20), (2, "abcd")), (1,), "range")
        self.assert_unreadable_route(route, ((1, 60), (2, "abcdef")), (1,), "range")
        self.assert_unreadable_route(route, ((2, "abcd"),), (2,), "range")

    def test_reasons_of_different_steps(self):
        route = (
            schema(a=("list", ("number", 0, 99), 0, 9)), schema(a=("list", ("number", 0, 50), 0, 9)),
            schema(a=("list", ("number", 0, 50), 0, 2)), schema(a=("list", TEXT, 0, 9)), RECORDS)
        self.assert_unreadable_route(route, (1, 2, 60), (2,), "range")
        self.assert_unreadable_route(route, (1, 2, 50), (), "count")
        self.assert_unreadable_route(route, (1, 2), (0,), "kind")
        self.assert_unreadable_route(route, (), (), "kind")
        self.assertEqual(read_route(route[:3], (1, 2)), (1, 2))

    def test_what_is_no_message_of_the_first_schema(self):
        for kind in (list, tuple):
            for route in ((self.FIRST,), (self.FIRST, self.SECOND), (self.FIRST, UNIONS, self.FIRST)):
                for value in (None, 0, "ab", (0, None), ((1, 10),), ((2, 6), (3, 7))):
                    self.assertRaises(InvalidValue, read_route, kind(route), value)

    def test_steps_are_like_reading_one_after_another(self):
        random = Random(47)
        for _ in range(100):
            first = draw_schema(random)
            route = [first] + [draw_like(random, first) for _ in range(3)]
            value = draw_value(random, first, first[0])
            self.assertEqual(self.outcome(read_route, route, value), self.outcome(self.one_after_another, route, value))

    def one_after_another(self, route, value):
        for old, new in zip(route, route[1:]):
            value = read(old, new, value)
        return value

    def outcome(self, function, route, value):
        try:
            return function(route, value)
        except Unreadable as error:
            return error.path, error.reason


class Arguments(unittest.TestCase):
    def test_arguments_stay_as_they_were(self):
        old, new = Messages.OLD, Messages.NEW
        value = ((1, 5), (2, "ab"))
        route = [old, new, old]
        before = copy.deepcopy((old, new, value, route))
        for _ in range(2):
            self.assertEqual(read_part(old, new, "a", "a", value), ((1, 5), (3, 7)))
            self.assertEqual(read(old, new, value), ((1, 5), (3, 7)))
            self.assertEqual(read_route(route, value), ((1, 5),))
        self.assertEqual((old, new, value, route), before)


class Interface(unittest.TestCase):
    def test_each_function_is_defined_in_its_module(self):
        for function in (read_part, read, read_route):
            self.assertEqual(function.__module__, "schemabridge.reading")

    def test_parameters_have_the_names_of_the_document(self):
        self.assertEqual(read_part(old=LISTS, new=LISTS, old_part="a", new_part="a", value=()), ())
        self.assertEqual(read(old=LISTS, new=LISTS, value=()), ())
        self.assertEqual(read_route(schemas=[LISTS], value=()), ())

    def test_errors_have_the_base_class(self):
        self.assertRaises(BridgeError, read, LISTS, RECORDS, ())
        self.assertRaises(BridgeError, read, LISTS, LISTS, 5)


if __name__ == "__main__":
    unittest.main()
