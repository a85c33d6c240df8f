"""counterexample_holds: points 1, 6, 24 and 25."""

import copy
import unittest

from schemabridge.deciding import counterexample_holds, decide
from schemabridge.schemas import is_valid
from tests.building import (
    DEEP, NUMBER, TEXT, UNIONS, deep_records, deep_unions, defaults, may_have, needs, numbers, record, schema, union)
from tests.rules import BROKEN_BODIES, CHAINS, placed

# Field 2 is dropped by the new schema although it may come back with another meaning.
OLD = schema(a=record(needs(NUMBER, 1), may_have(NUMBER, 2)))
NEW = schema(a=record(needs(NUMBER, 1)))
AFTER = schema(a=record(needs(NUMBER, 1), may_have(TEXT, 2)))
MESSAGE = ((1, 5), (2, 7))


class Checks(unittest.TestCase):
    def assert_found(self, before, after, message, *, holds, old=OLD, new=NEW):
        self.assertIs(counterexample_holds(old, new, (before, after, message)), holds, (before, after, message))


class Kinds(Checks):
    """The three ways in which a message may be felt."""

    def test_what_can_not_be_read_from_the_first_to_the_last(self):
        self.assert_found(OLD, AFTER, MESSAGE, holds=True)

    def test_two_readings_that_differ(self):
        self.assert_found(OLD, OLD, MESSAGE, holds=True)
        self.assert_found(OLD, schema(a=record(needs(NUMBER, 1), defaults(NUMBER, 4, 2))), MESSAGE, holds=True)

    def test_what_can_not_be_read_along_the_route(self):
        old = schema(a=record(may_have(NUMBER)))
        new = schema(a=record(needs(NUMBER)))
        self.assert_found(old, new, (), holds=True, old=old, new=new)
        self.assert_found(old, new, ((1, 5),), holds=False, old=old, new=new)
        before = schema(a=record())
        self.assert_found(before, new, (), holds=True, old=old, new=new)
        # What the last schema takes from the first one does not help if the new one does not take it.
        closed = schema(a=union((1, NUMBER)))
        opened = schema(a=union((1, NUMBER), is_open=True))
        self.assert_found(opened, opened, (0, None), holds=True, old=opened, new=closed)
        self.assert_found(opened, opened, (1, 5), holds=False, old=opened, new=closed)

    def test_messages_that_are_read_alike(self):
        self.assert_found(OLD, AFTER, ((1, 5),), holds=False)
        self.assert_found(OLD, NEW, MESSAGE, holds=False)
        self.assert_found(OLD, schema(a=record(needs(NUMBER, 1), may_have(TEXT, 3))), MESSAGE, holds=False)
        self.assert_found(OLD, schema(a=record(needs(NUMBER, 1), retired=(2,))), MESSAGE, holds=False)

    def test_a_default_of_the_first_route(self):
        old = schema(a=record(defaults(NUMBER, 7)))
        new = schema(a=record(defaults(NUMBER, 8)))
        before = schema(a=record())
        self.assert_found(before, new, (), holds=True, old=old, new=new)
        self.assert_found(old, new, ((1, 7),), holds=False, old=old, new=new)
        self.assert_found(before, old, (), holds=False, old=old, new=old)


class Parts(Checks):
    """Each part of a counterexample replaced by what is none."""

    def test_schemas_that_are_not_valid(self):
        for broken in (
                ("a", ()), ("b", OLD[1]), schema(A=OLD[1][0][1]), schema(a=record(needs("a"))),
                schema(a=record(needs(NUMBER, 1), may_have(NUMBER, 100))), schema(a=record(needs("b", 1))),
                schema(a=record(may_have(NUMBER, 2), needs(NUMBER, 1))), schema(a=numbers(99), b=record(needs("a"))),
                schema(a=record(needs(NUMBER, 1), (2, NUMBER, "maybe", None))),
                schema(a=record(needs(NUMBER, 1), (2, NUMBER, "default", "")))):
            self.assertIs(is_valid(broken), False)
            self.assert_found(broken, AFTER, MESSAGE, holds=False)
            self.assert_found(OLD, broken, MESSAGE, holds=False)
            self.assert_found(broken, broken, MESSAGE, holds=False)

    def test_a_first_schema_that_is_not_followed_by_the_old_one(self):
        for before in (
                AFTER, schema(a=record(needs(("number", 0, 10), 1), may_have(NUMBER, 2))),
                schema(a=record(needs(NUMBER, 1), may_have(NUMBER, 2), retired=(3,))),
                schema(a=record(needs(NUMBER, 1), defaults(NUMBER, 7, 2)))):
            self.assert_found(before, AFTER, MESSAGE, holds=False)
            self.assert_found(before, OLD, MESSAGE, holds=False)
        self.assert_found(NEW, OLD, ((1, 5),), holds=False)

    def test_a_last_schema_that_does_not_follow_the_new_one(self):
        for after in (
                schema(a=record(may_have(TEXT, 2))), schema(a=record(needs(NUMBER, 1), needs(TEXT, 2))),
                schema(a=record(needs(("number", 0, 8), 1), may_have(TEXT, 2))), schema(a=union(is_open=True))):
            self.assert_found(OLD, after, MESSAGE, holds=False)

    def test_values_that_are_no_messages_of_the_first_schema(self):
        for message in (
                (), ((1, 5), (2, 10)), ((2, 7),), ((1, 5), (2, 7), (3, 7)), ((2, 7), (1, 5)), ((1, "ab"), (2, 7)),
                None, 5, "ab", (1, 5), ((1, 5), (2, None)), (None,), ((1, 5), 2), ((1, 5, 2), (2, 7)), ((), ())):
            self.assert_found(OLD, AFTER, message, holds=False)
            self.assert_found(OLD, OLD, message, holds=False)

    def test_messages_that_are_too_deep(self):
        inner = schema(a=record(may_have("a", 7), may_have(NUMBER, 8)))
        after = schema(a=record(may_have("a", 7)))
        for levels, holds in ((1, True), (2, True), (79, True), (80, True), (81, False), (82, False), (195, False)):
            message = ((8, 3),)
            for _ in range(levels - 1):
                message = ((7, message),)
            self.assert_found(inner, inner, message, holds=holds, old=inner, new=after)
        self.assert_found(inner, inner, deep_records(80), holds=False, old=inner, new=after)

    def test_unions_that_are_too_deep(self):
        new = schema(a=union((3, "a"), (4, NUMBER)))
        for levels, holds in ((1, True), (80, True), (81, False), (195, False)):
            self.assert_found(UNIONS, new, deep_unions(levels), holds=holds, old=UNIONS, new=new)


class Steps(Checks):
    def test_what_decide_returns_and_each_part_of_it_replaced(self):
        strange = ("list", ("number", 77, 77), 1, 1)
        for _, old, new in BROKEN_BODIES:
            for chain in CHAINS:
                before, after = placed(chain, old), placed(chain, new)
                first, last, message = decide(before, after)[1]
                self.assert_found(first, last, message, holds=True, old=before, new=after)
                self.assert_found(schema(a=strange), last, message, holds=False, old=before, new=after)
                self.assert_found(first, schema(a=strange), message, holds=False, old=before, new=after)
                self.assert_found(first, last, "", holds=False, old=before, new=after)
                self.assert_found(first, last, (message, None), holds=False, old=before, new=after)

    def test_nothing_is_found_where_the_new_schema_follows(self):
        for found, deep in DEEP:
            for levels in (1, 5, 80, 81, 150):
                self.assert_found(found, found, deep(levels), holds=False, old=found, new=found)
        for message in ((), MESSAGE, ((1, 5),)):
            self.assert_found(OLD, OLD, message, holds=False, new=OLD)
            self.assert_found(OLD, schema(a=record(needs(NUMBER, 1), retired=(2,))), message, holds=False, new=OLD)
            self.assert_found(NEW, OLD, message, holds=False, old=NEW, new=OLD)

    def test_any_value(self):
        deep = (0, None)
        for _ in range(198):
            deep = (deep, 3)
        for value in (deep, (deep, deep), -1, "", (None, None), (("",), 3), 10 ** 30, (0, None), ((0, None),)):
            for _, old, new in BROKEN_BODIES:
                found = counterexample_holds(schema(z=old), schema(z=new), (schema(z=old), schema(z=new), value))
                self.assertIn(found, (True, False))
        self.assert_found(OLD, AFTER, deep, holds=False)

    def test_arguments_stay_as_they_were(self):
        arguments = (OLD, NEW, (OLD, AFTER, MESSAGE))
        kept = copy.deepcopy(arguments)
        for _ in range(2):
            self.assertIs(counterexample_holds(*arguments), True)
        self.assertEqual(arguments, kept)


if __name__ == "__main__":
    unittest.main()
