"""encode_part and encode: points 1, 10, 11 and 13."""

import copy
import itertools
import unittest

from schemabridge.codec import decode, encode, encode_part
from schemabridge.errors import InvalidValue
from schemabridge.values import is_of
from tests.building import (
    CHOICE, DEEP, FARTHEST, LISTS, NUMBER, TEXT, UNIONS, deep_lists, deep_unions, defaults, may_have, needs, record,
    schema, union)
from tests.sampling import draw_pairs

NOTE = record(needs(NUMBER, 2), may_have(TEXT, 4), defaults(NUMBER, 7, 6), may_have("tags", 8), needs(CHOICE, 9))
NOTES = schema(
    note=NOTE, notes=("list", "note", 0, 3), tags=("list", TEXT, 0, 2), one=union((2, NUMBER), (4, "tags")),
    topic=union((2, NUMBER), (4, "tags"), retired=(1,), is_open=True))


class Parts(unittest.TestCase):
    def assert_octets(self, part, value, octets, within=NOTES):
        self.assertIs(is_of(within, part, value), True)
        found = encode_part(within, part, value)
        self.assertIs(found.__class__, list)
        self.assertEqual(found, octets)

    def test_numbers_are_folded(self):
        leaf = ("number", -FARTHEST, FARTHEST)
        for value, octets in (
                (0, [0]), (-1, [1]), (1, [2]), (-3, [5]), (63, [126]), (-64, [127]), (64, [128, 1]), (150, [172, 2]),
                (-150, [171, 2])):
            self.assert_octets(leaf, value, octets)
        self.assert_octets(("number", 5, 9), 5, [10])
        self.assertEqual(len(encode_part(NOTES, leaf, FARTHEST)), 8)
        self.assertEqual(len(encode_part(NOTES, leaf, -FARTHEST)), 8)

    def test_texts(self):
        leaf = ("text", 0, 40)
        for value, octets in (
                ("", [0]), ("a", [1, 97]), ("hi", [2, 104, 105]), (" ~", [2, 32, 126]), ("\"\\", [2, 34, 92])):
            self.assert_octets(leaf, value, octets)
        self.assert_octets(leaf, "x" * 40, [40] + [120] * 40)
        allowed = [code for code in range(32, 127) if code != 37]
        for code in allowed:
            self.assert_octets(leaf, chr(code), [1, code])

    def test_choices(self):
        self.assert_octets(CHOICE, 1, [1])
        self.assert_octets(("choice", (5, 99), (), False), 99, [99])
        self.assert_octets(("choice", (5, 99), (), True), 0, [0])

    def test_lists(self):
        self.assert_octets("tags", (), [0])
        self.assert_octets("tags", ("ab",), [1, 2, 97, 98])
        self.assert_octets("tags", ("ab", "cd"), [2, 2, 97, 98, 2, 99, 100])
        within = schema(a=("list", NUMBER, 99, 99))
        self.assert_octets("a", (9, 8) * 49 + (7,), [99] + [18, 16] * 49 + [14], within=within)

    def test_records(self):
        self.assert_octets("note", ((2, 5), (6, 7), (9, 2)), [10, 0, 14, 0, 2])
        self.assert_octets("note", ((2, 5), (4, "ab"), (6, 7), (9, 1)), [10, 1, 2, 97, 98, 14, 0, 1])
        self.assert_octets("note", ((2, 5), (6, 3), (8, ()), (9, 2)), [10, 0, 6, 1, 0, 2])
        self.assert_octets(
            "note", ((2, 5), (4, "ab"), (6, 0), (8, ("cd",)), (9, 2)), [10, 1, 2, 97, 98, 0, 1, 1, 2, 99, 100, 2])
        empty = schema(a=record(retired=(1, 2)), b=record(needs("a")), c=record(may_have("a")))
        self.assert_octets("a", (), [], within=empty)
        self.assert_octets("b", ((1, ()),), [], within=empty)
        self.assert_octets("c", (), [0], within=empty)
        self.assert_octets("c", ((1, ()),), [1], within=empty)

    def test_unions(self):
        for part in ("one", "topic"):
            self.assert_octets(part, (2, 9), [2, 18])
            self.assert_octets(part, (4, ()), [4, 0])
            self.assert_octets(part, (4, ("ab",)), [4, 1, 2, 97, 98])
        self.assert_octets("topic", (0, None), [0])

    def test_values_in_values_in_their_order(self):
        within = schema(
            a=("list", "b", 0, 3), b=union((1, "a"), (2, NUMBER), (3, "c")), c=record(needs("b"), may_have("a", 2)))
        value = ((2, 1), (1, ((2, 2), (1, ()))), (3, ((1, (2, 3)), (2, ((2, 4),)))))
        self.assert_octets("a", value, [3, 2, 2, 1, 2, 2, 4, 1, 0, 3, 2, 6, 1, 1, 2, 8], within=within)

    def test_values_that_are_too_deep_for_messages(self):
        self.assert_octets("a", deep_lists(200), [1] * 199 + [0], within=LISTS)
        self.assert_octets("a", deep_unions(200), [3] * 199 + [0], within=UNIONS)

    def test_each_list_is_a_new_one(self):
        value = ((2, 5), (4, "ab"), (6, 7), (8, ("cd",)), (9, 1))
        before = copy.deepcopy((NOTES, value))
        octets = [10, 1, 2, 97, 98, 14, 1, 1, 2, 99, 100, 1]
        for _ in range(3):
            found = encode_part(NOTES, "note", value)
            self.assertEqual(found, octets)
            found[3] = 0
            found.append(7)
        self.assertEqual((NOTES, value), before)


class Messages(unittest.TestCase):
    def assert_refused(self, within, *values):
        for value in values:
            with self.assertRaises(InvalidValue):
                encode(within, value)

    def test_the_example(self):
        note = ("record", ((1, ("text", 0, 5), "required", None), (2, ("number", -9, 9), "optional", None)), ())
        self.assertEqual(encode(("note", (("note", note),)), ((1, "hi"), (2, -3))), [2, 104, 105, 1, 5])

    def test_a_message_is_a_value_of_the_root(self):
        notes = ("notes", NOTES[1])
        value = (((2, 5), (6, 7), (9, 2)), ((2, 0), (4, "ab"), (6, 0), (9, 1)))
        self.assertEqual(encode(notes, value), [2, 10, 0, 14, 0, 2, 0, 1, 2, 97, 98, 0, 0, 1])
        self.assertEqual(encode(notes, ()), [0])
        self.assertEqual(encode(("topic", NOTES[1]), (0, None)), [0])

    def test_messages_and_parts_have_the_same_octets(self):
        for found, value in draw_pairs(60, 5):
            self.assertEqual(encode(found, value), encode_part(found, found[0], value))

    def test_up_to_80_levels(self):
        for within, deep in DEEP:
            for levels in (1, 79, 80):
                self.assertEqual(encode(within, deep(levels)), encode_part(within, "a", deep(levels)))

    def test_more_than_80_levels(self):
        for within, deep in DEEP:
            self.assert_refused(within, deep(81), deep(82), deep(95))

    def test_what_is_no_value_of_the_root(self):
        self.assert_refused(
            ("notes", NOTES[1]), None, 0, "", "ab", (1,), ((),), (None,), ("ab",), (((2, 5), (6, 7)),),
            (((2, 5), (6, 7), (9, 0)),), (((2, 5), (6, 7), (9, 2)),) * 4, ((2, 5), (6, 7), (9, 2)))
        self.assert_refused(("one", NOTES[1]), (0, None), (1, 3), (2, 10), (2,), (4, None), (), 2)
        self.assert_refused(("topic", NOTES[1]), (0, 0), (1, 3), (3, 3), "0", (0,), None)

    def test_values_of_other_definitions(self):
        self.assert_refused(("note", NOTES[1]), (), (0, None), ("ab",))
        self.assert_refused(("tags", NOTES[1]), ((2, 5), (6, 7), (9, 2)), (2, 5))

    def test_other_errors_are_not_raised_for_strange_tuples(self):
        shapes = (None, 0, 1, "ab", (), (0, None), (1, ()), (2, "ab"))
        for pair in itertools.product(shapes, repeat=2):
            for value in (pair, (pair,), (pair, pair)):
                for root in ("note", "one"):
                    within = (root, NOTES[1])
                    if is_of(within, root, value):
                        self.assertEqual(decode(within, encode(within, value)), value)
                    else:
                        self.assert_refused(within, value)


class Prefixes(unittest.TestCase):
    def test_messages_differ_before_one_of_them_ends(self):
        within = schema(
            a=record(needs(("number", 0, 1)), may_have("b", 2)), b=("list", "c", 0, 2),
            c=union((1, ("text", 0, 1)), (2, "a"), is_open=True))
        small = ((0, None), (1, ""), (1, "a"), (1, " "), (2, ((1, 0),)), (2, ((1, 1), (2, ()))))
        lists = [()] + [(one,) for one in small] + list(itertools.product(small, repeat=2))
        values = [((1, number),) for number in (0, 1)]
        values += [((1, number), (2, inner)) for number in (0, 1) for inner in lists]
        octets = [encode(within, value) for value in values]
        self.assertEqual(len(octets), 88)
        for one, other in itertools.permutations(octets, 2):
            self.assertNotEqual(other[:len(one)], one)


class Interface(unittest.TestCase):
    def test_each_function_is_defined_in_its_module(self):
        for function in (encode_part, encode, decode):
            self.assertEqual(function.__module__, "schemabridge.codec")

    def test_parameters_have_the_names_of_the_document(self):
        self.assertEqual(encode_part(schema=LISTS, part="a", value=()), [0])
        self.assertEqual(encode(schema=LISTS, value=()), [0])
        self.assertEqual(decode(schema=LISTS, octets=[0]), ())


if __name__ == "__main__":
    unittest.main()
