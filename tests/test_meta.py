"""META, schema_value, value_schema, schema_octets and octets_schema: points 1, 9, 12 and 14."""

import copy
import unittest
from random import Random

from schemabridge import meta
from schemabridge.codec import decode, encode
from schemabridge.errors import BadOctets, InvalidSchema
from schemabridge.meta import META, octets_schema, schema_octets, schema_value, value_schema
from schemabridge.schemas import is_valid
from schemabridge.values import is_message
from tests.building import (
    CHOICE, DEEP, FARTHEST, LISTS, NUMBER, TEXT, defaults, may_have, needs, numbers, record, schema, tuples_only, union)
from tests.sampling import draw_schema

# The schema of point 14, in other words.
WIDE = ("number", -1000000000000000, 1000000000000000)
BIT = ("number", 0, 1)
THREE = ("number", 1, 3)
EXPECTED = schema(
    definition=record(
        needs(("text", 1, 12), 1), needs(THREE, 2), needs("members", 3), needs("ids", 4),
        may_have(("number", 0, 99), 5), may_have(("number", 1, 99), 6), may_have(BIT, 7)),
    definitions=("list", "definition", 1, 8),
    ids=("list", ("number", 1, 99), 0, 99),
    leaf=record(
        needs(THREE, 1), may_have(WIDE, 2), may_have(WIDE, 3), may_have("ids", 4), may_have("ids", 5), may_have(BIT, 6)),
    member=record(
        needs(("number", 0, 99), 1), needs("part", 2), may_have(THREE, 3), may_have(WIDE, 4),
        may_have(("text", 0, 40), 5)),
    members=("list", "member", 0, 99),
    part=union((1, ("text", 1, 12)), (2, "leaf")),
    schema=record(needs(("text", 1, 12), 1), needs("definitions", 2)))

NUMBER_VALUE = (2, ((1, 1), (2, 0), (3, 9)))
TEXT_VALUE = (2, ((1, 2), (2, 2), (3, 5)))
CHOICE_VALUE = (2, ((1, 3), (4, (1, 2)), (5, ()), (6, 0)))
OPEN_VALUE = (2, ((1, 3), (4, (5,)), (5, (2, 99)), (6, 1)))
OPEN = ("choice", (5,), (2, 99), True)


def one(definition, root="a"):
    """The message of a schema with one definition."""
    return ((1, root), (2, (definition,)))


def definition(number, members, ids=(), *more, name="a"):
    return ((1, name), (2, number), (3, members), (4, ids)) + more


def list_value(*members, ids=(), low=((5, 0),), high=((6, 3),), more=()):
    return one(definition(1, members, ids, *low, *high, *more))


def record_value(*members, ids=(), more=()):
    return one(definition(2, members, ids, *more))


def union_value(*members, ids=(), is_open=((7, 0),), more=()):
    return one(definition(3, members, ids, *more, *is_open))


def member(number, part, *more):
    return ((1, number), (2, part)) + more


class Checks(unittest.TestCase):
    def assert_stands_for(self, value, found):
        self.assertIs(is_valid(found), True)
        made = schema_value(found)
        self.assertEqual(made, value)
        self.assertTrue(tuples_only(made))
        self.assertIs(is_message(META, made), True)
        # Other than ==, the texts tell True from 1 and False from 0.
        self.assertEqual(repr(value_schema(value)), repr(found))
        octets = schema_octets(found)
        self.assertIs(octets.__class__, list)
        self.assertEqual(octets, encode(META, value))
        self.assertEqual(repr(octets_schema(octets)), repr(found))

    def assert_no_schema(self, value):
        """Checks a message of META that is not the message of a valid schema."""
        self.assertIs(is_message(META, value), True, value)
        self.assertRaises(InvalidSchema, value_schema, value)
        self.assertRaises(InvalidSchema, octets_schema, encode(META, value))


class TheSchema(unittest.TestCase):
    def test_it_is_that_of_the_document(self):
        self.assertEqual(META, ("schema", EXPECTED[1]))
        self.assertEqual(META[1][6][1][3].__class__, bool)
        self.assertTrue(is_valid(META))

    def test_it_is_read_back_from_its_own_octets(self):
        octets = schema_octets(META)
        self.assertEqual(octets_schema(octets), META)
        self.assertEqual(decode(META, octets), schema_value(META))
        self.assertEqual(value_schema(schema_value(META)), META)


class Schemas(Checks):
    def test_lists(self):
        self.assert_stands_for(list_value(member(0, NUMBER_VALUE)), schema(a=("list", NUMBER, 0, 3)))
        self.assert_stands_for(list_value(member(0, (1, "a"))), schema(a=("list", "a", 0, 3)))
        self.assert_stands_for(
            list_value(member(0, TEXT_VALUE), low=((5, 99),), high=((6, 99),)), schema(a=("list", TEXT, 99, 99)))

    def test_leaves(self):
        for part, value in ((NUMBER, NUMBER_VALUE), (TEXT, TEXT_VALUE), (CHOICE, CHOICE_VALUE), (OPEN, OPEN_VALUE)):
            self.assert_stands_for(list_value(member(0, value)), schema(a=("list", part, 0, 3)))
            self.assert_stands_for(record_value(member(9, value, (3, 1))), schema(a=record(needs(part, 9))))
            self.assert_stands_for(union_value(member(9, value)), schema(a=union((9, part))))

    def test_leaves_at_the_bounds(self):
        for part, value in (
                (("number", -FARTHEST, FARTHEST), (2, ((1, 1), (2, -FARTHEST), (3, FARTHEST)))),
                (("number", FARTHEST, FARTHEST), (2, ((1, 1), (2, FARTHEST), (3, FARTHEST)))),
                (("text", 0, 40), (2, ((1, 2), (2, 0), (3, 40)))),
                (("choice", (), (), True), (2, ((1, 3), (4, ()), (5, ()), (6, 1)))),
                (("choice", (1, 99), (), True), (2, ((1, 3), (4, (1, 99)), (5, ()), (6, 1))))):
            self.assert_stands_for(list_value(member(0, value)), schema(a=("list", part, 0, 3)))

    def test_records(self):
        self.assert_stands_for(record_value(), schema(a=record()))
        self.assert_stands_for(record_value(ids=(3, 99)), schema(a=record(retired=(3, 99))))
        self.assert_stands_for(
            record_value(
                member(1, NUMBER_VALUE, (3, 1)), member(2, (1, "a"), (3, 2)), member(4, NUMBER_VALUE, (3, 3), (4, 7)),
                member(5, TEXT_VALUE, (3, 3), (5, "hi")), ids=(3, 6)),
            schema(a=record(
                needs(NUMBER, 1), may_have("a", 2), defaults(NUMBER, 7, 4), defaults(TEXT, "hi", 5), retired=(3, 6))))

    def test_defaults(self):
        wide = (2, ((1, 1), (2, -FARTHEST), (3, FARTHEST)))
        for default in (0, -1, FARTHEST, -FARTHEST):
            self.assert_stands_for(
                record_value(member(1, wide, (3, 3), (4, default))),
                schema(a=record(defaults(("number", -FARTHEST, FARTHEST), default))))
        texts = (2, ((1, 2), (2, 0), (3, 40)))
        for default in ("", "~" * 40, " 1"):
            self.assert_stands_for(
                record_value(member(1, texts, (3, 3), (5, default))),
                schema(a=record(defaults(("text", 0, 40), default))))

    def test_unions(self):
        self.assert_stands_for(
            union_value(member(1, TEXT_VALUE), member(99, (1, "a"))), schema(a=union((1, TEXT), (99, "a"))))
        self.assert_stands_for(
            union_value(member(2, TEXT_VALUE), ids=(1, 3), is_open=((7, 1),)),
            schema(a=union((2, TEXT), retired=(1, 3), is_open=True)))
        self.assert_stands_for(union_value(is_open=((7, 1),)), schema(a=union(is_open=True)))

    def test_several_definitions_and_the_root(self):
        parts = (
            definition(1, (member(0, (1, "bc")),), (), (5, 0), (6, 5), name="a"), definition(2, (), (4,), name="bc"),
            definition(3, (member(1, (1, "a")), member(2, (1, "bc"))), (), (7, 0), name="bcd"))
        definitions = (("a", ("list", "bc", 0, 5)), ("bc", record(retired=(4,))), ("bcd", union((1, "a"), (2, "bc"))))
        for root in ("a", "bc", "bcd"):
            self.assert_stands_for(((1, root), (2, parts)), (root, definitions))

    def test_the_largest_schemas(self):
        names = ["abcdefghijk" + last for last in "abcdefgh"]
        fields = tuple(may_have(names[number % 8], number) for number in range(1, 100))
        found = (names[3], tuple((name, record(*fields)) for name in names))
        self.assertEqual(octets_schema(schema_octets(found)), found)
        retired = tuple(range(1, 100))
        found = schema(
            a=record(retired=retired), b=union(retired=retired, is_open=True),
            c=("list", ("choice", (), retired, True), 0, 1))
        self.assertEqual(octets_schema(schema_octets(found)), found)
        live = schema(
            a=("list", ("choice", retired, (), False), 0, 99), b=union(*((number, NUMBER) for number in retired)))
        self.assertEqual(octets_schema(schema_octets(live)), live)

    def test_random_schemas(self):
        random = Random(31)
        seen = {}
        for _ in range(150):
            found = draw_schema(random)
            octets = schema_octets(found)
            self.assertEqual(octets_schema(octets), found)
            self.assertEqual(value_schema(schema_value(found)), found)
            self.assertEqual(decode(META, octets), schema_value(found))
            self.assertTrue(tuples_only(schema_value(found)))
            self.assertEqual(seen.setdefault(tuple(octets), found), found)

    def test_the_octets_of_a_schema(self):
        self.assertEqual(
            schema_octets(schema(a=("list", NUMBER, 0, 3))),
            [1, 97, 1, 1, 97, 2, 1, 0, 2, 2, 1, 0, 1, 18, 0, 0, 0, 0, 0, 0, 0, 1, 0, 1, 6, 0])

    def test_arguments_stay_as_they_were(self):
        found = schema(a=record(defaults(TEXT, "hi", 5), may_have("a", 7), retired=(3, 6)))
        value = schema_value(found)
        octets = schema_octets(found)
        before = copy.deepcopy((found, value, octets))
        for _ in range(2):
            self.assertEqual(schema_value(found), value)
            self.assertEqual(value_schema(value), found)
            self.assertEqual(octets_schema(octets), found)
            again = schema_octets(found)
            self.assertEqual(again, octets)
            again.clear()
        self.assertEqual((found, value, octets), before)
        octets[0] = 0
        self.assertEqual(schema_octets(found), before[2])


class NoMessages(unittest.TestCase):
    def test_values_of_any_kind(self):
        deep = [make(levels) for _, make in DEEP for levels in (1, 5, 81, 90)]
        for value in (None, 0, "", "a", (), (1,), ("ab",), (0, None), ((1, "a"),), ((1, "a"), (2, ())), *deep):
            self.assertRaises(InvalidSchema, value_schema, value)

    def test_messages_with_something_else_in_them(self):
        good = list_value(member(0, NUMBER_VALUE))
        for value in (
                list_value(member(0, (3, "a"))), list_value(member(0, (0, None))),
                list_value(member(100, NUMBER_VALUE)), list_value(member(0, NUMBER_VALUE), low=((5, 100),)),
                list_value(member(0, NUMBER_VALUE), high=((6, 0),)),
                list_value(member(0, NUMBER_VALUE), high=((6, None),)), list_value(member(0, (1, ""))),
                list_value(member(0, (1, "a" * 13))), union_value(member(1, NUMBER_VALUE), is_open=((7, 2),)),
                one(definition(4, ())), one(definition(0, ())), one(definition(2, (), (0,))),
                one(definition(2, (), (100,))),
                record_value(member(1, NUMBER_VALUE, (3, 4))), record_value(member(1, NUMBER_VALUE, (3, 0))),
                record_value(member(1, NUMBER_VALUE, (3, 3), (4, FARTHEST + 1))),
                record_value(member(1, TEXT_VALUE, (3, 3), (5, "a" * 41))),
                record_value(member(1, TEXT_VALUE, (3, 3), (5, 4))),
                ((2, good[1][1]), (1, "a")), good + ((3, 0),), good[:1], good[1:], (good[0], (2, good[1][1] * 9)),
                list_value(member(0, (2, ((1, 4), (2, 0), (3, 9))))),
                list_value(member(0, (2, ((1, 0), (2, 0), (3, 9)))))):
            self.assertIs(is_message(META, value), False, value)
            self.assertRaises(InvalidSchema, value_schema, value)

    def test_schemas_are_not_their_messages(self):
        self.assertRaises(InvalidSchema, value_schema, LISTS)
        self.assertRaises(InvalidSchema, value_schema, META)


class FieldsTooManyOrTooFew(Checks):
    def test_leaves(self):
        for wrong in (
                ((1, 1),), ((1, 1), (2, 0)), ((1, 1), (3, 9)), ((1, 2), (2, 2)), ((1, 2), (3, 5)), ((1, 2),),
                ((1, 1), (2, 0), (3, 9), (4, ())), ((1, 1), (2, 0), (3, 9), (5, ())), ((1, 1), (2, 0), (3, 9), (6, 0)),
                ((1, 2), (2, 2), (3, 5), (4, (1,))), ((1, 2), (2, 2), (3, 5), (5, ())),
                ((1, 2), (2, 2), (3, 5), (6, 1)),
                ((1, 3),), ((1, 3), (4, (1,)), (5, ())), ((1, 3), (4, (1,)), (6, 0)), ((1, 3), (5, ()), (6, 1)),
                ((1, 3), (2, 0), (4, (1,)), (5, ()), (6, 0)), ((1, 3), (3, 0), (4, (1,)), (5, ()), (6, 0)),
                ((1, 3), (2, 0), (3, 9)), ((1, 1), (4, (1,)), (5, ()), (6, 0))):
            self.assert_no_schema(list_value(member(0, (2, wrong))))
            self.assert_no_schema(record_value(member(1, (2, wrong), (3, 1))))
            self.assert_no_schema(union_value(member(1, (2, wrong))))

    def test_lists(self):
        good = member(0, NUMBER_VALUE)
        self.assert_stands_for(list_value(good), schema(a=("list", NUMBER, 0, 3)))
        self.assert_no_schema(list_value(good, low=()))
        self.assert_no_schema(list_value(good, high=()))
        self.assert_no_schema(list_value(good, low=(), high=()))
        self.assert_no_schema(list_value(good, more=((7, 0),)))
        self.assert_no_schema(list_value(good, more=((7, 1),)))
        self.assert_no_schema(list_value(good, ids=(1,)))
        self.assert_no_schema(list_value())
        self.assert_no_schema(list_value(good, good))
        self.assert_no_schema(list_value(good, member(1, TEXT_VALUE)))
        self.assert_no_schema(list_value(member(1, NUMBER_VALUE)))
        self.assert_no_schema(list_value(member(99, NUMBER_VALUE)))
        for mode in (1, 2, 3):
            self.assert_no_schema(list_value(good + ((3, mode),)))
        self.assert_no_schema(list_value(good + ((4, 5),)))
        self.assert_no_schema(list_value(good + ((5, "abc"),)))
        self.assert_no_schema(list_value(good + ((3, 3), (4, 5))))

    def test_records(self):
        good = member(1, NUMBER_VALUE, (3, 1))
        self.assert_stands_for(record_value(good), schema(a=record(needs(NUMBER))))
        self.assert_no_schema(record_value(good, more=((5, 0),)))
        self.assert_no_schema(record_value(good, more=((6, 3),)))
        self.assert_no_schema(record_value(good, more=((7, 0),)))
        self.assert_no_schema(record_value(good, more=((7, 1),)))
        self.assert_no_schema(record_value(good, more=((5, 0), (6, 3))))
        self.assert_no_schema(record_value(member(1, NUMBER_VALUE)))
        self.assert_no_schema(record_value(good, member(2, NUMBER_VALUE)))

    def test_defaults(self):
        for part, value in ((NUMBER_VALUE, (4, 3)), (TEXT_VALUE, (5, "abc"))):
            for mode in (1, 2):
                self.assert_no_schema(record_value(member(1, part, (3, mode), value)))
            self.assert_no_schema(record_value(member(1, part, (3, 3))))
            self.assert_no_schema(record_value(member(1, part, value)))
        self.assert_no_schema(record_value(member(1, NUMBER_VALUE, (3, 3), (5, "abc"))))
        self.assert_no_schema(record_value(member(1, TEXT_VALUE, (3, 3), (4, 3))))
        self.assert_no_schema(record_value(member(1, NUMBER_VALUE, (3, 3), (4, 3), (5, "abc"))))
        self.assert_no_schema(record_value(member(1, TEXT_VALUE, (3, 3), (4, 3), (5, "abc"))))

    def test_unions(self):
        good = member(1, NUMBER_VALUE)
        self.assert_stands_for(union_value(good), schema(a=union((1, NUMBER))))
        self.assert_no_schema(union_value(good, is_open=()))
        self.assert_no_schema(union_value(good, more=((5, 0),)))
        self.assert_no_schema(union_value(good, more=((6, 3),)))
        for mode in (1, 2, 3):
            self.assert_no_schema(union_value(good + ((3, mode),)))
        self.assert_no_schema(union_value(good + ((4, 3),)))
        self.assert_no_schema(union_value(good + ((5, ""),)))

    def test_members_and_definitions_behind_the_first_one(self):
        good = member(1, NUMBER_VALUE, (3, 1))
        self.assert_no_schema(record_value(good, member(2, NUMBER_VALUE, (3, 2), (4, 3))))
        self.assert_no_schema(((1, "a"), (2, (definition(2, (good,)), definition(2, (good,), (), (5, 0), name="b")))))


class InvalidSchemas(Checks):
    def test_roots_and_names(self):
        good = definition(2, ())
        self.assert_no_schema(one(good, root="b"))
        self.assert_no_schema(one(good, root="aa"))
        for name in ("A", " ", "a1", "~", "a b"):
            self.assert_no_schema(one(definition(2, (), name=name), root=name))

    def test_the_order_of_definitions(self):
        a, b = definition(2, (), name="a"), definition(2, (), name="b")
        self.assert_stands_for(((1, "a"), (2, (a, b))), schema(a=record(), b=record()))
        self.assert_no_schema(((1, "a"), (2, (b, a))))
        self.assert_no_schema(((1, "a"), (2, (a, a))))

    def test_parts(self):
        self.assert_no_schema(list_value(member(0, (1, "b"))))
        self.assert_no_schema(record_value(member(1, (1, "B"), (3, 2))))
        for wrong in (
                ((1, 1), (2, 1), (3, 0)), ((1, 2), (2, -1), (3, 5)), ((1, 2), (2, 0), (3, 41)),
                ((1, 2), (2, 3), (3, 2)),
                ((1, 3), (4, ()), (5, ()), (6, 0)), ((1, 3), (4, (1,)), (5, (2,)), (6, 0)),
                ((1, 3), (4, (1,)), (5, (1,)), (6, 1)), ((1, 3), (4, (2, 1)), (5, ()), (6, 1)),
                ((1, 3), (4, (1, 1)), (5, ()), (6, 0)), ((1, 3), (4, ()), (5, (3, 2)), (6, 1))):
            self.assert_no_schema(list_value(member(0, (2, wrong))))

    def test_lists(self):
        self.assert_no_schema(list_value(member(0, NUMBER_VALUE), low=((5, 4),)))

    def test_records(self):
        good = member(3, NUMBER_VALUE, (3, 1))
        self.assert_no_schema(record_value(good, member(2, NUMBER_VALUE, (3, 1))))
        self.assert_no_schema(record_value(good, good))
        self.assert_no_schema(record_value(good, ids=(3,)))
        self.assert_no_schema(record_value(good, ids=(2, 1)))
        self.assert_no_schema(record_value(member(0, NUMBER_VALUE, (3, 1))))
        self.assert_no_schema(record_value(member(1, NUMBER_VALUE, (3, 3), (4, 10))))
        self.assert_no_schema(record_value(member(1, TEXT_VALUE, (3, 3), (5, "a"))))
        self.assert_no_schema(record_value(member(1, CHOICE_VALUE, (3, 3), (4, 1))))
        self.assert_no_schema(record_value(member(1, (1, "a"), (3, 3), (4, 1))))
        self.assert_no_schema(record_value(member(1, (1, "a"), (3, 3))))

    def test_unions(self):
        self.assert_no_schema(union_value())
        self.assert_no_schema(union_value(member(1, NUMBER_VALUE), ids=(2,)))
        self.assert_no_schema(union_value(member(1, NUMBER_VALUE), ids=(1,), is_open=((7, 1),)))
        self.assert_no_schema(union_value(member(0, NUMBER_VALUE)))
        self.assert_no_schema(union_value(member(2, NUMBER_VALUE), member(1, NUMBER_VALUE)))

    def test_definitions_without_values(self):
        self.assert_no_schema(record_value(member(1, (1, "a"), (3, 1))))
        self.assert_no_schema(list_value(member(0, (1, "a")), low=((5, 1),)))
        self.assert_no_schema(union_value(member(1, (1, "a"))))

    def test_simple_values_of_more_than_100_values(self):
        a = definition(1, (member(0, (1, "b")),), (), (5, 1), (6, 1))
        for low, makes in ((98, True), (99, False)):
            b = definition(1, (member(0, NUMBER_VALUE),), (), (5, low), (6, 99), name="b")
            value = ((1, "a"), (2, (a, b)))
            if makes:
                self.assert_stands_for(value, schema(a=("list", "b", 1, 1), b=numbers(98)))
            else:
                self.assert_no_schema(value)

    def test_simple_values_that_can_not_be_built(self):
        names = "abcdefgh"
        parts = [(1, after) for after in names[1:]] + [NUMBER_VALUE]
        chain = tuple(
            definition(1, (member(0, part),), (), (5, 99), (6, 99), name=name) for name, part in zip(names, parts))
        self.assert_no_schema(((1, "a"), (2, chain)))


class Octets(unittest.TestCase):
    def assert_bad(self, octets, at, reason):
        before = list(octets)
        with self.assertRaises(BadOctets) as caught:
            octets_schema(octets)
        self.assertEqual((caught.exception.at, caught.exception.reason), (at, reason))
        self.assertEqual(octets, before)

    def test_the_faults_of_decoding(self):
        good = schema_octets(schema(a=("list", NUMBER, 0, 3)))
        self.assert_bad([], 0, "end")
        self.assert_bad(good[:-1], len(good) - 1, "end")
        self.assert_bad(good + [0], len(good), "rest")
        self.assert_bad([0], 0, "range")
        self.assert_bad([13], 0, "range")
        self.assert_bad([128, 0], 0, "form")
        self.assert_bad([1, 37], 1, "range")
        self.assert_bad([1, 97, 0], 2, "range")
        self.assert_bad([1, 97, 9], 2, "range")
        self.assert_bad([1, 97, 1, 1, 97, 1], 5, "range")
        self.assert_bad([1, 97, 1, 1, 97, 8], 5, "range")
        self.assert_bad([1, 97, 1, 1, 97] + [255] * 8, 5, "form")

    def test_each_beginning(self):
        octets = schema_octets(schema(a=record(defaults(TEXT, "hi", 5), may_have("a", 7), retired=(3, 6))))
        for many in range(len(octets)):
            self.assert_bad(octets[:many], many, "end")

    def test_faults_are_those_of_decoding_by_meta(self):
        random = Random(5)
        for _ in range(60):
            octets = schema_octets(draw_schema(random))
            octets[random.randrange(len(octets))] = random.choice((0, 1, 2, 3, 128, 255))
            self.check(octets)

    def check(self, octets):
        try:
            value = decode(META, octets)
        except BadOctets as error:
            self.assert_bad(octets, error.at, error.reason)
        else:
            try:
                found = octets_schema(octets)
            except InvalidSchema:
                self.assertRaises(InvalidSchema, value_schema, value)
            else:
                self.assertEqual(schema_octets(found), octets)
                self.assertIs(is_valid(found), True)


class Interface(unittest.TestCase):
    def test_each_function_is_defined_in_its_module(self):
        for function in (schema_value, value_schema, schema_octets, octets_schema):
            self.assertEqual(function.__module__, "schemabridge.meta")
        self.assertIs(meta.META, META)

    def test_parameters_have_the_names_of_the_document(self):
        value = schema_value(schema=LISTS)
        octets = schema_octets(schema=LISTS)
        self.assertEqual(value_schema(value=value), LISTS)
        self.assertEqual(octets_schema(octets=octets), LISTS)


if __name__ == "__main__":
    unittest.main()
