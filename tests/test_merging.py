"""join_leaf, clash_depth and merge: points 1 and 26 to 28."""

import copy
import unittest
from random import Random

from schemabridge.deciding import follows
from schemabridge.errors import BridgeError, Clash, TooLarge
from schemabridge.merging import clash_depth, join_leaf, merge
from schemabridge.meta import META
from schemabridge.schemas import is_leaf, is_valid
from schemabridge.values import simple_value, value_count
from tests.building import (
    CHOICE, FARTHEST, LISTS, NUMBER, RECORDS, TEXT, UNIONS, defaults, may_have, needs, numbers, record, schema, union)
from tests.rules import closed, opened
from tests.sampling import draw_like, draw_next, draw_schema


def body_parts(body):
    return [body[1]] if body[0] == "list" else [row[1] for row in body[1]]


def renamed(body, names):
    """The body with other names in the place of its parts."""
    if body[0] == "list":
        return ("list", names.get(body[1], body[1])) + body[2:]
    return (body[0], tuple((row[0], names.get(row[1], row[1])) + row[2:] for row in body[1])) + body[2:]


def told_by_place(found):
    """What a schema says without its names, and how many definitions the root does not lead to."""
    bodies = dict(found[1])
    names = {found[0]: 0}
    for _ in bodies:
        for reached in list(names):
            for part in body_parts(bodies[reached]):
                if not is_leaf(part):
                    names.setdefault(part, len(names))
    told = {names[name]: renamed(bodies[name], names) for name in names}
    return told, len(bodies) - len(names)


class Leaves(unittest.TestCase):
    def assert_joined(self, first, second, expected):
        self.assertEqual(join_leaf(first, second), expected)
        self.assertEqual(join_leaf(second, first), expected)
        self.assertEqual(join_leaf(expected, expected), expected)

    def test_kinds(self):
        leaves = (NUMBER, TEXT, CHOICE, ("number", 2, 5), opened(()))
        for first in leaves:
            for second in leaves:
                if first[0] == second[0]:
                    self.assertEqual(join_leaf(first, second)[0], first[0])
                else:
                    self.assertIsNone(join_leaf(first, second))

    def test_numbers_and_texts(self):
        for kind in ("number", "text"):
            self.assert_joined((kind, 3, 7), (kind, 3, 7), (kind, 3, 7))
            self.assert_joined((kind, 3, 7), (kind, 2, 7), (kind, 2, 7))
            self.assert_joined((kind, 3, 7), (kind, 3, 8), (kind, 3, 8))
            self.assert_joined((kind, 3, 7), (kind, 5, 9), (kind, 3, 9))
            self.assert_joined((kind, 3, 7), (kind, 4, 6), (kind, 3, 7))
            self.assert_joined((kind, 0, 1), (kind, 39, 40), (kind, 0, 40))
        self.assert_joined(("number", -7, -3), ("number", 2, 5), ("number", -7, 5))
        self.assert_joined(
            ("number", -FARTHEST, -FARTHEST), ("number", FARTHEST, FARTHEST), ("number", -FARTHEST, FARTHEST))

    def test_symbols(self):
        self.assert_joined(closed(1, 2), closed(1, 2), closed(1, 2))
        self.assert_joined(closed(1, 4), closed(2, 4), closed(1, 2, 4))
        self.assert_joined(closed(9), closed(1), closed(1, 9))
        self.assert_joined(closed(1), opened((2,)), opened((1, 2)))
        self.assert_joined(opened(()), opened(()), opened(()))
        self.assert_joined(opened((1,)), opened((2,)), opened((1, 2)))

    def test_retired_symbols(self):
        self.assert_joined(closed(1, 2), opened((1,), (2,)), opened((1,), (2,)))
        self.assert_joined(opened((1, 3), (2,)), opened((2,), (1,)), opened((3,), (1, 2)))
        self.assert_joined(opened((), (7,)), opened((), (5,)), opened((), (5, 7)))
        self.assert_joined(opened((), (7,)), opened((), (7,)), opened((), (7,)))
        self.assert_joined(closed(3), opened((), (3, 4)), opened((), (3, 4)))
        self.assert_joined(opened((4,), (99,)), closed(1, 99), opened((1, 4), (99,)))

    def test_many_symbols(self):
        self.assert_joined(
            closed(*range(1, 100)), opened((), tuple(range(1, 100, 2))),
            opened(tuple(range(2, 100, 2)), tuple(range(1, 100, 2))))


class ClashDepths(unittest.TestCase):
    BODIES = (("list", NUMBER, 0, 5), record(), union(is_open=True))

    def assert_clash(self, first, second, expected):
        for one, other in ((first, second), (second, first)):
            self.assertTrue(is_valid(one) and is_valid(other))
            self.assertEqual(clash_depth(one, other), expected)
            if expected is None:
                self.assertIs(is_valid(merge(one, other)), True)
            else:
                with self.assertRaises(Clash) as caught:
                    merge(one, other)
                self.assertEqual(caught.exception.depth, expected)
                self.assertEqual(caught.exception.__class__.__bases__, (BridgeError,))

    def within(self, lists, part, **others):
        """A schema with that many lists around the part."""
        names = "abcdefg"[:lists]
        return schema(**others, **{
            name: ("list", names[place + 1] if place < lists - 1 else part, 0, 5) for place, name in enumerate(names)})

    def test_roots_of_unlike_kinds(self):
        for first in self.BODIES:
            for second in self.BODIES:
                self.assert_clash(schema(a=first), schema(b=second), None if first == second else 0)

    def test_unlike_parts_within_lists(self):
        leaves = (NUMBER, TEXT, CHOICE)
        for lists in range(1, 8):
            for first in leaves:
                for second in leaves:
                    self.assert_clash(
                        self.within(lists, first), self.within(lists, second), None if first == second else lists)
            for body in (record(), union(is_open=True)):
                self.assert_clash(self.within(lists, NUMBER), self.within(lists, "x", x=body), lists)
            self.assert_clash(
                self.within(lists, "x", x=record()), self.within(lists, "x", x=union(is_open=True)), lists)

    def test_lists_of_unlike_numbers_of_lists(self):
        for first in range(1, 5):
            for second in range(first + 1, 6):
                self.assert_clash(self.within(first, NUMBER), self.within(second, NUMBER), first)
                self.assert_clash(self.within(first, "x", x=record()), self.within(second, NUMBER), first)

    def test_lists_that_meet_a_second_time(self):
        self.assert_clash(LISTS, LISTS, None)
        self.assert_clash(LISTS, self.within(3, "a"), None)
        self.assert_clash(self.within(2, "a"), self.within(3, "a"), None)
        self.assert_clash(self.within(3, "b"), self.within(4, "c"), None)
        self.assert_clash(self.within(3, "b"), self.within(7, NUMBER), 7)
        self.assert_clash(LISTS, self.within(2, "x", x=record()), 2)

    def test_the_range_of_lists_does_not_count(self):
        self.assert_clash(schema(a=("list", NUMBER, 0, 1)), schema(a=("list", NUMBER, 5, 99)), None)

    def test_what_stands_in_records_and_unions_does_not_count(self):
        self.assert_clash(schema(a=record(needs(NUMBER))), schema(a=record(needs(TEXT))), None)
        self.assert_clash(schema(a=union((1, NUMBER))), schema(a=union((1, "a"), (2, TEXT))), None)
        self.assert_clash(
            schema(a=("list", "b", 0, 5), b=record(needs(NUMBER))),
            schema(a=("list", "c", 0, 5), c=record(needs(TEXT))), None)


class Checks(unittest.TestCase):
    def assert_merged(self, first, second, expected):
        """Checks the merged schema up to its names, in both orders."""
        self.assertTrue(is_valid(first) and is_valid(second) and is_valid(expected))
        for one, other in ((first, second), (second, first)):
            found = merge(one, other)
            self.assertIs(is_valid(found), True)
            self.assertEqual(told_by_place(found), told_by_place(expected))
            self.assertEqual(told_by_place(found)[1], 0)
            self.assertTrue(follows(one, found) and follows(other, found))

    def assert_too_large(self, first, second):
        self.assertTrue(is_valid(first) and is_valid(second))
        for one, other in ((first, second), (second, first)):
            with self.assertRaises(TooLarge) as caught:
                merge(one, other)
            self.assertEqual(caught.exception.__class__.__bases__, (BridgeError,))


class Lists(Checks):
    def test_ranges(self):
        for first, second, expected in (
                ((3, 7), (3, 7), (3, 7)), ((3, 7), (2, 7), (2, 7)), ((3, 7), (3, 8), (3, 8)),
                ((0, 1), (98, 99), (0, 99)),
                ((3, 7), (4, 6), (3, 7)), ((1, 5), (3, 9), (1, 9))):
            self.assert_merged(*(schema(a=("list", NUMBER, low, high)) for low, high in (first, second, expected)))

    def test_leaves(self):
        pairs = ((("number", 0, 3), ("number", 5, 9)), (TEXT, ("text", 0, 1)), (closed(1), opened((), (2,))))
        for first, second in pairs:
            self.assert_merged(
                schema(a=("list", first, 0, 5)), schema(a=("list", second, 0, 5)),
                schema(a=("list", join_leaf(first, second), 0, 5)))

    def test_names(self):
        self.assert_merged(
            schema(a=("list", "b", 0, 5), b=record(needs(NUMBER))),
            schema(a=("list", "z", 1, 6), z=record(needs(TEXT, 2))),
            schema(a=("list", "b", 0, 6), b=record(may_have(NUMBER), may_have(TEXT, 2))))

    def test_lists_of_lists_that_meet_in_turn(self):
        first = schema(a=("list", "b", 1, 4), b=("list", "a", 0, 2))
        second = schema(a=("list", "b", 0, 1), b=("list", "c", 0, 1), c=("list", "a", 0, 9))
        bounds = ((0, 4), (0, 2), (0, 9), (0, 2), (0, 4), (0, 9))
        names = "abcdef"
        self.assert_merged(first, second, schema(**{
            names[place]: ("list", names[(place + 1) % 6], low, high) for place, (low, high) in enumerate(bounds)}))


class Fields(Checks):
    def assert_fields(self, first, second, expected):
        self.assert_merged(schema(a=first), schema(a=second), schema(a=expected))

    def test_modes(self):
        required, optional, default = needs(NUMBER), may_have(NUMBER), defaults(NUMBER, 7)
        for first, second, expected in (
                (required, required, required), (required, optional, optional), (required, default, default),
                (optional, optional, optional), (optional, default, default), (default, default, default)):
            self.assert_fields(record(first), record(second), record(expected))

    def test_defaults(self):
        wide = ("number", -5, 50)
        self.assert_fields(record(defaults(NUMBER, 7)), record(defaults(wide, 7)), record(defaults(wide, 7)))
        self.assert_fields(record(defaults(NUMBER, 7)), record(defaults(NUMBER, 8)), record(retired=(1,)))
        self.assert_fields(record(defaults(NUMBER, 0)), record(defaults(NUMBER, 8)), record(retired=(1,)))
        self.assert_fields(record(defaults(TEXT, "ab")), record(defaults(TEXT, "ac")), record(retired=(1,)))
        self.assert_fields(
            record(defaults(("text", 0, 3), "")), record(needs(TEXT)), record(defaults(("text", 0, 5), "")))
        self.assert_fields(record(defaults(NUMBER, 7)), record(defaults(TEXT, "ab")), record(retired=(1,)))
        self.assert_fields(
            record(defaults(("number", 0, 3), 2), needs(NUMBER, 2)),
            record(may_have(("number", 5, 9)), needs(NUMBER, 2)),
            record(defaults(NUMBER, 2), needs(NUMBER, 2)))

    def test_fields_of_one_record_alone(self):
        self.assert_fields(record(needs(NUMBER)), record(), record(may_have(NUMBER)))
        self.assert_fields(record(may_have(NUMBER)), record(), record(may_have(NUMBER)))
        self.assert_fields(record(defaults(NUMBER, 7)), record(), record(defaults(NUMBER, 7)))
        self.assert_fields(
            record(needs(NUMBER, 1), needs(TEXT, 4)), record(needs(CHOICE, 2), needs(TEXT, 4)),
            record(may_have(NUMBER, 1), may_have(CHOICE, 2), needs(TEXT, 4)))

    def test_retired_ids(self):
        for field in (needs(NUMBER), may_have(NUMBER), defaults(NUMBER, 7), may_have("a")):
            self.assert_fields(record(field), record(retired=(1,)), record(retired=(1,)))
        self.assert_fields(record(retired=(1, 4)), record(retired=(2, 4)), record(retired=(1, 2, 4)))
        self.assert_fields(record(retired=(4,)), record(), record(retired=(4,)))
        self.assert_fields(
            record(needs(NUMBER, 1), needs(NUMBER, 3), retired=(2, 9)),
            record(needs(NUMBER, 2), needs(NUMBER, 3), retired=(1, 5)), record(needs(NUMBER, 3), retired=(1, 2, 5, 9)))

    def test_parts_that_clash(self):
        self.assert_fields(record(needs(NUMBER)), record(needs(TEXT)), record(retired=(1,)))
        self.assert_fields(record(may_have("a")), record(needs(TEXT)), record(retired=(1,)))
        self.assert_fields(
            record(needs(NUMBER, 1), needs(TEXT, 2)), record(needs(NUMBER, 1), needs(CHOICE, 2), retired=(5,)),
            record(needs(NUMBER, 1), retired=(2, 5)))

    def test_lists_that_clash(self):
        first = schema(a=record(needs("b", 1), needs("c", 2)), b=("list", "c", 0, 5), c=("list", NUMBER, 0, 5))
        second = schema(a=record(needs("b", 1), needs("c", 2)), b=("list", "c", 0, 5), c=("list", TEXT, 0, 5))
        self.assert_merged(first, second, schema(a=record(retired=(1, 2))))
        second = schema(a=record(needs("b", 1), needs("c", 2)), b=("list", NUMBER, 0, 5), c=("list", NUMBER, 1, 6))
        self.assert_merged(first, second, schema(a=record(needs("b", 2), retired=(1,)), b=("list", NUMBER, 0, 6)))

    def test_lists_that_meet_a_second_time_in_a_field(self):
        first = schema(a=record(needs("b")), b=("list", "b", 0, 5))
        second = schema(a=record(needs("b")), b=("list", "c", 0, 3), c=("list", "b", 0, 9))
        self.assert_merged(
            first, second, schema(a=record(needs("b")), b=("list", "c", 0, 5), c=("list", "b", 0, 9)))

    def test_records_of_unlike_fields_do_not_clash(self):
        first = schema(a=record(needs("b")), b=record(needs(NUMBER)))
        second = schema(a=record(needs("b")), b=record(needs(TEXT)))
        self.assert_merged(first, second, schema(a=record(needs("b")), b=record(retired=(1,))))


class Cases(Checks):
    def assert_cases(self, first, second, expected):
        self.assert_merged(schema(a=first), schema(a=second), schema(a=expected))

    def test_cases_of_both(self):
        self.assert_cases(
            union((1, ("number", 0, 3)), (2, TEXT)), union((1, ("number", 5, 9)), (2, TEXT)),
            union((1, NUMBER), (2, TEXT)))
        self.assert_cases(union((1, NUMBER), (2, "a")), union((1, NUMBER), (2, "a")), union((1, NUMBER), (2, "a")))

    def test_cases_of_one_alone(self):
        self.assert_cases(union((1, NUMBER)), union((2, TEXT)), union((1, NUMBER), (2, TEXT)))
        self.assert_cases(union(is_open=True), union((2, TEXT)), union((2, TEXT), is_open=True))

    def test_open_unions(self):
        self.assert_cases(union((1, NUMBER)), union((1, NUMBER)), union((1, NUMBER)))
        self.assert_cases(union((1, NUMBER)), union((1, NUMBER), is_open=True), union((1, NUMBER), is_open=True))
        self.assert_cases(union(is_open=True), union(is_open=True), union(is_open=True))

    def test_retired_ids(self):
        self.assert_cases(union((1, NUMBER)), union(retired=(1,), is_open=True), union(retired=(1,), is_open=True))
        self.assert_cases(
            union((1, NUMBER), (3, TEXT), retired=(2, 9), is_open=True), union((2, TEXT), retired=(1, 5), is_open=True),
            union((3, TEXT), retired=(1, 2, 5, 9), is_open=True))

    def test_parts_that_clash_open_the_union(self):
        self.assert_cases(union((1, NUMBER)), union((1, TEXT)), union(retired=(1,), is_open=True))
        self.assert_cases(
            union((1, NUMBER), (2, NUMBER)), union((1, NUMBER), (2, "a")),
            union((1, NUMBER), retired=(2,), is_open=True))
        first = schema(a=union((1, NUMBER), (2, "b")), b=("list", NUMBER, 0, 5))
        second = schema(a=union((1, NUMBER), (2, "b")), b=("list", TEXT, 0, 5))
        self.assert_merged(first, second, schema(a=union((1, NUMBER), retired=(2,), is_open=True)))


class Cells(Checks):
    def test_a_schema_with_itself(self):
        for found in (LISTS, RECORDS, UNIONS, META):
            self.assert_merged(found, found, found)

    def test_what_is_not_reached_is_left_out(self):
        first = schema(a=record(needs("b")), b=record(), c=record(needs("d")), d=("list", "c", 0, 5))
        self.assert_merged(first, first, schema(a=record(needs("b")), b=record()))
        second = schema(a=record(retired=(1,)), b=union(is_open=True))
        self.assert_merged(first, second, schema(a=record(retired=(1,))))

    def test_unlike_names(self):
        first = schema(note=record(needs("topic", 2)), topic=union((1, NUMBER), (2, "note")))
        second = ("z", (("entry", union((1, NUMBER), (2, "z"))), ("z", record(needs("entry", 2)))))
        self.assert_merged(first, second, first)

    def test_the_same_names_for_unlike_definitions(self):
        first = schema(a=record(needs("b", 1), needs("c", 2)), b=("list", NUMBER, 0, 1), c=record(needs(NUMBER, 1)))
        second = schema(a=record(needs("c", 1), needs("b", 2)), c=("list", NUMBER, 0, 2), b=record(needs(NUMBER, 1)))
        self.assert_merged(
            first, second,
            schema(a=record(needs("b", 1), needs("c", 2)), b=("list", NUMBER, 0, 2), c=record(needs(NUMBER, 1))))

    def test_a_name_of_one_schema_alone(self):
        first = schema(a=record(needs("b", 1), needs(NUMBER, 3)), b=("list", "c", 0, 5), c=record(needs("b", 1)))
        second = schema(a=record(needs(NUMBER, 3)))
        self.assert_merged(
            first, second,
            schema(a=record(may_have("b", 1), needs(NUMBER, 3)), b=("list", "c", 0, 5), c=record(needs("b", 1))))

    def test_a_name_of_both_schemas_in_cells_of_its_own(self):
        # "b" of the first schema alone, "b" of the second one alone, and both together are three cells.
        first = schema(a=record(needs("b", 1), needs("b", 2)), b=record(needs(NUMBER, 1), may_have("b", 9)))
        second = schema(a=record(needs("b", 2), needs("b", 3)), b=record(needs(NUMBER, 1), may_have("b", 9)))
        self.assert_merged(first, second, schema(
            a=record(may_have("b", 1), needs("c", 2), may_have("d", 3)),
            b=record(needs(NUMBER, 1), may_have("b", 9)), c=record(needs(NUMBER, 1), may_have("c", 9)),
            d=record(needs(NUMBER, 1), may_have("d", 9))))

    def test_a_definition_that_meets_several(self):
        first = schema(a=record(needs("b", 1), needs("b", 2)), b=record(needs(NUMBER, 1)))
        second = schema(a=record(needs("b", 1), needs("c", 2)), b=record(needs(NUMBER, 1)), c=record(needs(NUMBER, 2)))
        self.assert_merged(first, second, schema(
            a=record(needs("b", 1), needs("c", 2)), b=record(needs(NUMBER, 1)),
            c=record(may_have(NUMBER, 1), may_have(NUMBER, 2))))

    def test_a_schema_and_one_that_follows_it(self):
        random = Random(83)
        for _ in range(100):
            old = draw_schema(random)
            new = draw_next(random, old)
            for found in (self.merged(old, new), self.merged(new, old)):
                if found is not None:
                    self.assertTrue(follows(new, found) and follows(found, new) and follows(old, found))

    def merged(self, first, second):
        try:
            return merge(first, second)
        except TooLarge:
            return None

    def test_random_common_successors(self):
        random = Random(89)
        many = 0
        for _ in range(400):
            base = draw_schema(random)
            first, second = draw_next(random, base), draw_next(random, draw_like(random, base))
            if clash_depth(first, second) is None:
                found = self.merged(first, second)
                if found is not None:
                    self.assertIs(is_valid(found), True)
                    self.assertEqual(told_by_place(found)[1], 0)
                    self.assertTrue(follows(first, found) and follows(second, found))
                    for other in (draw_next(random, first), draw_next(random, second), draw_next(random, base)):
                        if follows(first, other) and follows(second, other):
                            many += 1
                            self.assertIs(follows(found, other), True)
        self.assertGreater(many, 100)


class AllSmallSchemas(unittest.TestCase):
    """All pairs of some small schemas, and all of these schemas that follow both."""

    def setUp(self):
        leaves = (("number", 0, 0), ("number", 0, 1), ("text", 0, 0), "a")
        bodies = [("list", part, low, 1) for part in leaves + (closed(1), opened((), (1,))) for low in (0, 1)]
        for part in leaves:
            for mode, default in (
                    ("required", None), ("optional", None), ("default", 0), ("default", 1), ("default", "")):
                bodies += [record((1, part, mode, default), retired=retired) for retired in ((), (2,))]
            for is_open in (False, True):
                bodies += [union((1, part), retired=retired, is_open=is_open) for retired in ((), (2,))]
                bodies += [union((1, part), (2, other), is_open=is_open) for other in ("a", ("number", 0, 0))]
        for retired in ((), (1,), (2,), (1, 2)):
            bodies += [record(retired=retired), union(retired=retired, is_open=True)]
        found = [schema(a=body) for body in bodies]
        inner = (("list", "a", 0, 1), ("list", "b", 0, 1), record(may_have("a")), union((1, "a"), is_open=True))
        outer = (("list", "b", 0, 1), record(needs("b")), record(may_have("b")), union((1, "b")))
        found += [schema(a=one, b=other) for one in outer for other in inner]
        self.found = [one for one in found if is_valid(one)]

    def test_each_common_successor_follows_the_merged_schema(self):
        after = {one: [other for other in self.found if follows(one, other)] for one in self.found}
        many = 0
        for first in self.found:
            for second in self.found:
                common = [other for other in after[first] if other in after[second]]
                depth = clash_depth(first, second)
                if depth is not None:
                    self.assertEqual(common, [])
                else:
                    merged = merge(first, second)
                    self.assertTrue(follows(first, merged) and follows(second, merged))
                    many += len(common)
                    for other in common:
                        self.assertIs(follows(merged, other), True)
        self.assertGreater(many, 4000)


class Sizes(Checks):
    def chain(self, many, number):
        """A schema of that many records, each one in a field of the one before it."""
        names = "abcdefgh"[:many]
        return schema(**{
            name: record(may_have(names[place + 1], number)) if place < many - 1 else record()
            for place, name in enumerate(names)})

    def test_eight_definitions_and_more(self):
        # The root is one cell of both, all others are cells of one schema alone.
        for many, others in ((8, 1), (5, 4), (2, 7), (1, 8)):
            found = merge(self.chain(many, 1), self.chain(others, 2))
            self.assertEqual(len(found[1]), 8)
            self.assertIs(is_valid(found), True)
        for many, others in ((8, 2), (5, 5), (8, 8), (2, 8)):
            self.assert_too_large(self.chain(many, 1), self.chain(others, 2))

    def test_rings_that_meet_in_many_ways(self):
        rings = {many: schema(**{
            name: record(may_have("abcdefgh"[(place + 1) % many])) for place, name in enumerate("abcdefgh"[:many])})
            for many in range(1, 9)}
        for first, second, cells in ((1, 8, 8), (2, 4, 4), (2, 3, 6), (4, 8, 8), (8, 8, 8), (7, 7, 7)):
            self.assertEqual(len(merge(rings[first], rings[second])[1]), cells)
        for first, second in ((2, 5), (3, 4), (7, 8), (5, 8), (6, 4)):
            # A smaller common successor does not help.
            self.assertTrue(follows(rings[first], rings[1]) and follows(rings[second], rings[1]))
            self.assert_too_large(rings[first], rings[second])

    def test_definitions_that_are_not_reached_do_not_count(self):
        first = schema(a=record(retired=(1,)), **{name: record() for name in "bcdefgh"})
        self.assert_merged(first, self.chain(8, 1), schema(a=record(retired=(1,))))

    def test_simple_values_of_100_values_and_more(self):
        # In each schema one field has a small simple value; in the merged one both fields have the large one.
        fields = record(needs("x", 1), needs("y", 2), needs(NUMBER, 3))
        for low, fits in ((0, True), (47, True), (48, False), (90, False)):
            parts = {"s": numbers(0), "t": numbers(low)}
            first = schema(a=fields, x=union((2, "s")), y=union((1, "t")), **parts)
            second = schema(a=fields, x=union((1, "t")), y=union((2, "s")), **parts)
            if fits:
                found = merge(first, second)
                self.assertEqual(value_count(found, found[0], simple_value(found, found[0])), 6 + 2 * low)
                self.assertEqual(len(found[1]), 7)
            else:
                self.assert_too_large(first, second)


class Arguments(unittest.TestCase):
    def test_arguments_stay_as_they_were(self):
        first = schema(a=record(needs("b", 1), needs(CHOICE, 2), retired=(9,)), b=union((1, "a"), (2, TEXT)))
        second = schema(a=record(needs("b", 1), may_have(CHOICE, 2), retired=(8,)), b=union((1, "a"), (3, TEXT)))
        before = copy.deepcopy((first, second))
        for _ in range(2):
            self.assertEqual(merge(first, second), merge(first, second))
            self.assertIsNone(clash_depth(first, second))
            self.assertEqual(join_leaf(CHOICE, opened((3,))), opened((1, 2, 3)))
        self.assertEqual((first, second), before)


class Interface(unittest.TestCase):
    def test_each_function_is_defined_in_its_module(self):
        for function in (join_leaf, clash_depth, merge):
            self.assertEqual(function.__module__, "schemabridge.merging")

    def test_parameters_have_the_names_of_the_document(self):
        self.assertEqual(join_leaf(first=NUMBER, second=NUMBER), NUMBER)
        self.assertIsNone(clash_depth(first=LISTS, second=LISTS))
        self.assertEqual(len(merge(first=LISTS, second=LISTS)[1]), 1)


if __name__ == "__main__":
    unittest.main()
