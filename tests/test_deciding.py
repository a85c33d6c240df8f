"""follows and decide: points 1, 18 to 25."""

import copy
import unittest
from random import Random

from schemabridge.deciding import counterexample_holds, decide, follows
from schemabridge.errors import Unreadable
from schemabridge.grounds import certificate_holds, reachable_pairs
from schemabridge.meta import META
from schemabridge.reading import read, read_route
from schemabridge.schemas import is_valid, least_depths, with_body
from schemabridge.values import is_message, simple_value, value_count
from tests.building import (
    LISTS, NUMBER, RECORDS, TEXT, UNIONS, defaults, may_have, needs, numbers, record, schema, tuples_only, union)
from tests.rules import BROKEN_BODIES, BROKEN_LEAVES, CHAINS, KEPT_BODIES, KEPT_LEAVES, leaf_bodies, opened, placed
from tests.sampling import draw_like, draw_next, draw_schema, draw_value


class Checks(unittest.TestCase):
    def assert_counterexample(self, old, new, found):
        """Checks what point 24 says, without counterexample_holds."""
        before, after, message = found
        self.assertIs(tuples_only(message), True)
        self.assertTrue(is_valid(before) and is_valid(after), found)
        self.assertTrue(certificate_holds(before, old, reachable_pairs(before, old)), found)
        self.assertTrue(certificate_holds(new, after, reachable_pairs(new, after)), found)
        self.assertTrue(is_message(before, message), found)
        try:
            self.assertNotEqual(read_route((before, old, new, after), message), read(before, after, message), found)
        except Unreadable:
            pass

    def assert_follows(self, old, new):
        self.assertTrue(is_valid(old) and is_valid(new), (old, new))
        self.assertIs(follows(old, new), True, (old, new))
        found = decide(old, new)
        self.assertIs(found.__class__, tuple)
        self.assertEqual(found, ("follows", reachable_pairs(old, new)))
        self.assertIs(certificate_holds(old, new, found[1]), True)

    def assert_breaks(self, old, new):
        self.assertTrue(is_valid(old) and is_valid(new), (old, new))
        self.assertIs(follows(old, new), False, (old, new))
        found = decide(old, new)
        self.assertIs(found.__class__, tuple)
        self.assertEqual((found[0], len(found)), ("breaks", 2))
        self.assertIs(found[1].__class__, tuple)
        self.assert_counterexample(old, new, found[1])
        self.assertIs(counterexample_holds(old, new, found[1]), True)


class KeptRules(Checks):
    def test_leaves(self):
        for old_leaf, new_leaf in KEPT_LEAVES:
            for old, new in leaf_bodies(old_leaf, new_leaf):
                for chain in CHAINS:
                    self.assert_follows(placed(chain, old), placed(chain, new))

    def test_bodies(self):
        for old, new in KEPT_BODIES:
            for chain in CHAINS:
                self.assert_follows(placed(chain, old), placed(chain, new))

    def test_what_is_not_reached_does_not_count(self):
        old = schema(a=record(may_have("b", 1)), b=("list", NUMBER, 0, 5), c=record(needs(NUMBER)))
        new = schema(a=record(retired=(1,)), b=("list", TEXT, 0, 5), c=union((1, "b")))
        self.assert_follows(old, new)
        self.assert_follows(schema(a=record(), b=("list", NUMBER, 0, 5)), schema(a=record(), b=record()))

    def test_names_do_not_count(self):
        old = schema(a=("list", "b", 0, 3), b=record(may_have("a")))
        new = ("y", (("x", record(may_have("y"))), ("y", ("list", "x", 0, 3))))
        self.assert_follows(old, new)
        self.assert_follows(new, old)

    def test_one_definition_for_several_and_several_for_one(self):
        one = schema(a=record(may_have("a", 1), may_have("a", 2)))
        several = schema(
            a=record(may_have("b", 1), may_have("c", 2)), b=record(may_have("c", 1), may_have("a", 2)),
            c=record(may_have("a", 1), may_have("b", 2)))
        self.assert_follows(one, several)
        self.assert_follows(several, one)

    def test_a_schema_and_itself(self):
        for found in (LISTS, RECORDS, UNIONS, META):
            self.assert_follows(found, found)


class BrokenRules(Checks):
    def test_all_ways_are_there(self):
        ways = {way for way, _, _ in BROKEN_LEAVES + BROKEN_BODIES}
        self.assertEqual(ways, set(range(1, 14)))

    def test_leaves(self):
        for _, old_leaf, new_leaf in BROKEN_LEAVES:
            for old, new in leaf_bodies(old_leaf, new_leaf):
                for chain in CHAINS:
                    self.assert_breaks(placed(chain, old), placed(chain, new))

    def test_bodies(self):
        for _, old, new in BROKEN_BODIES:
            for chain in CHAINS:
                self.assert_breaks(placed(chain, old), placed(chain, new))

    def test_two_broken_rules(self):
        for _, old, new in BROKEN_BODIES:
            for _, other_old, other_new in BROKEN_BODIES[::5]:
                bodies = {"a": record(may_have("b"), may_have("z", 2)), "z": old, "b": other_old}
                changed = {"a": record(may_have("b"), may_have("z", 2)), "z": new, "b": other_new}
                self.assert_breaks(schema(**bodies), schema(**changed))

    def test_several_rules_at_one_body(self):
        old = record(needs(NUMBER, 1), may_have(TEXT, 2), defaults(NUMBER, 4, 3), may_have("a", 4), retired=(5, 6, 7))
        fields = (
            needs(NUMBER, 1), needs(TEXT, 1), needs(TEXT, 2), may_have(NUMBER, 3), defaults(NUMBER, 5, 3),
            may_have("a", 5), needs(NUMBER, 6), needs(TEXT, 8))
        for many in range(len(fields)):
            for first in range(len(fields) - many):
                chosen = {field[0]: field for field in fields[first:first + many]}
                new = record(*(chosen[number] for number in sorted(chosen)))
                self.assert_breaks(schema(a=old), schema(a=new))

    def test_a_broken_leaf_beside_ids_that_keep_the_rules(self):
        for _, old_leaf, new_leaf in BROKEN_LEAVES:
            old = record(needs(old_leaf, 2), needs(NUMBER, 4), may_have(TEXT, 5), retired=(6,))
            new = record(
                may_have(NUMBER, 1), needs(new_leaf, 2), defaults(NUMBER, 3, 3), defaults(NUMBER, 3, 4),
                retired=(5, 6, 7))
            self.assert_breaks(schema(a=old), schema(a=new))
            old = union((2, old_leaf), (4, NUMBER), retired=(6,), is_open=True)
            new = union((1, NUMBER), (2, new_leaf), retired=(4, 6, 7), is_open=True)
            self.assert_breaks(schema(a=old), schema(a=new))

    def test_an_open_union_with_several_broken_ids(self):
        old = union((1, "a"), (2, NUMBER), retired=(4, 5), is_open=True)
        for new in (
                union((3, NUMBER)), union((4, NUMBER)), union(is_open=True), union((4, "a"), (5, TEXT), is_open=True),
                union((1, NUMBER), (2, "a"), retired=(4, 5), is_open=True), union(retired=(1, 4), is_open=True)):
            self.assert_breaks(schema(a=old), schema(a=new))

    def test_a_broken_body_that_stands_on_its_own_chain(self):
        # Both bodies of the old schema meet several bodies of the new one before a rule is broken.
        old = schema(a=record(may_have("a", 1), defaults(NUMBER, 5, 2), may_have("a", 3), retired=(7,)))
        for broken in (
                record(may_have("a", 1), defaults(NUMBER, 6, 2), may_have("a", 3), retired=(7,)),
                record(may_have("a", 1), retired=(3, 7)), record(may_have("a", 1), may_have("a", 7), retired=(2, 3)),
                record(may_have("a", 1), retired=(2, 3)), record(retired=(1, 2, 7))):
            new = schema(
                a=record(may_have("b", 1), defaults(NUMBER, 5, 2), may_have("a", 3), retired=(7,)),
                b=record(may_have("c", 1), defaults(NUMBER, 5, 2), may_have("a", 3), retired=(7,)), c=broken)
            self.assert_breaks(old, new)

    def test_the_same_leaf_elsewhere_in_the_body(self):
        old_leaf, new_leaf = opened((1,), (4,)), opened((1, 4))
        old = record(may_have(old_leaf, 1), needs(old_leaf, 2), needs(old_leaf, 3))
        new = record(may_have(old_leaf, 1), needs(new_leaf, 2), needs(old_leaf, 3))
        self.assert_breaks(schema(a=old), schema(a=new))


def ring(many, others, last):
    """A schema of that many records, each one within the one before it and the first one within the last one.

    Each record has further fields and retired ids: those of `others`, but for the last one those of `last`.
    """
    names = "abcdefgh"[:many]
    rests = [others] * (many - 1) + [last]
    return schema(**{
        name: record(may_have(names[(place + 1) % many], 3), *fields, retired=retired)
        for place, (name, (fields, retired)) in enumerate(zip(names, rests))})


def union_of(found):
    """The schema with unions in the place of its records."""
    definitions = {
        name: union(*((number, part) for number, part, _, _ in fields), retired=retired, is_open=True)
        for name, (_, fields, retired) in found[1]}
    return schema(**definitions)


class LongChains(Checks):
    NOTHING = ((), ())
    RETIRED = ((), (5,))

    def rings(self, old, others, new):
        """An old and a new schema; the last pair that is met, behind 55 others, is the only one of `old` and `new`."""
        before, after = ring(8, self.NOTHING, old), ring(7, others, new)
        self.assertEqual(len(reachable_pairs(before, after)), 56)
        return before, after

    def test_rings_that_keep_all_rules(self):
        before, after = self.rings(self.NOTHING, self.NOTHING, self.NOTHING)
        self.assert_follows(before, after)
        self.assert_follows(after, before)
        before, after = self.rings(((needs(NUMBER, 5),), ()), self.RETIRED, self.RETIRED)
        self.assert_follows(before, after)
        self.assert_follows(union_of(before), union_of(after))
        self.assert_breaks(after, before)

    def test_leaves(self):
        for _, old_leaf, new_leaf in BROKEN_LEAVES:
            before, after = self.rings(((needs(old_leaf, 5),), ()), self.RETIRED, ((may_have(new_leaf, 5),), ()))
            self.assert_breaks(before, after)
            self.assert_breaks(union_of(before), union_of(after))

    def test_rules_for_ids(self):
        for old, others, new in (
                (((needs(NUMBER, 5),), ()), self.RETIRED, self.NOTHING),
                (self.RETIRED, self.RETIRED, self.NOTHING),
                (self.RETIRED, self.RETIRED, ((may_have(NUMBER, 5),), ())),
                (self.RETIRED, self.RETIRED, ((may_have("a", 5),), ()))):
            before, after = self.rings(old, others, new)
            self.assert_breaks(before, after)
            self.assert_breaks(union_of(before), union_of(after))

    def test_defaults(self):
        seven, eight = ((defaults(NUMBER, 7, 5),), ()), ((defaults(NUMBER, 8, 5),), ())
        self.assert_breaks(*self.rings(seven, seven, eight))
        self.assert_breaks(*self.rings(seven, seven, ((may_have(NUMBER, 5),), ())))

    def test_simple_values_on_the_way(self):
        # Each body on the chain needs others beside it, and the bodies at its end are deep themselves.
        old = schema(
            a=("list", "b", 3, 9), b=record(needs("c", 1), may_have("a", 2), defaults(TEXT, "abc", 3), needs("h", 4)),
            c=union((1, NUMBER), (2, "d")), d=record(may_have("a", 1), may_have("e", 2)), e=record(needs("f", 1)),
            f=record(needs("g", 1)), g=record(needs("h", 1)), h=("list", NUMBER, 4, 5))
        for body in (
                record(may_have("a", 1)), record(may_have("a", 1), may_have(NUMBER, 2)),
                record(may_have("a", 1), may_have("e", 2), needs("a", 3)), record(retired=(2,))):
            self.assert_breaks(old, schema(**{**dict(old[1]), "d": body}))


class Bounds(Checks):
    """Schemas near the bound of 100 values and of the greatest of the least depths."""

    def simple_count(self, found, name):
        return value_count(found, name, simple_value(found, name))

    def filled(self, body, name):
        """The body with a field or a case more, whose part is that name."""
        if body[0] == "record":
            return ("record", body[1] + (needs(name, 90),), body[2])
        return ("union", body[1] + ((90, name),)) + body[2:]

    def pairs(self, kind):
        return [(old, new) for _, old, new in BROKEN_BODIES if old[0] == new[0] == kind]

    def test_records_of_100_values(self):
        for old, new in self.pairs("record"):
            low = 98 - max(self.simple_count(schema(z=body), "z") for body in (old, new))
            before, after = [("z", (("x", numbers(low)), ("z", self.filled(body, "x")))) for body in (old, new)]
            counts = [self.simple_count(found, "z") for found in (before, after)]
            self.assertEqual(max(counts), 99)
            before, after = [with_body(found, "x", numbers(low + 1)) for found in (before, after)]
            self.assert_breaks(before, after)
            self.assertFalse(is_valid(with_body(before, "x", numbers(low + 2))) and
                             is_valid(with_body(after, "x", numbers(low + 2))))

    def test_unions_of_100_values(self):
        for old, new in (
                (union((1, "x"), (2, "x")), union((1, "x"))),
                (union((1, "x"), (2, "x")), union((1, "x"), is_open=True)),
                (union((1, "x")), union((1, "y"))), (union((1, "x"), is_open=True), union((1, "x"))),
                (union((1, "x"), retired=(3,), is_open=True), union((1, "x"), (3, "x"), is_open=True)),
                (union((1, "x"), retired=(3,), is_open=True), union((1, "x"), is_open=True)),
                (union((1, "x")), union((1, "y"), (2, "x")))):
            before, after = [("z", (("x", numbers(98)), ("y", record()), ("z", body))) for body in (old, new)]
            self.assert_breaks(before, after)

    def test_lists_of_100_values(self):
        self.assert_breaks(schema(a=("list", NUMBER, 98, 99)), schema(a=("list", NUMBER, 99, 99)))
        self.assert_breaks(schema(a=("list", NUMBER, 99, 99)), schema(a=("list", NUMBER, 0, 98)))
        self.assert_breaks(schema(a=("list", NUMBER, 99, 99)), schema(a=("list", TEXT, 99, 99)))
        inner = ("list", NUMBER, 98, 99)
        self.assert_breaks(schema(a=("list", "b", 0, 99), b=inner), schema(a=("list", "b", 0, 98), b=inner))
        outer = ("list", "b", 0, 99)
        self.assert_breaks(schema(a=outer, b=inner), schema(a=outer, b=("list", TEXT, 0, 99)))

    def test_definitions_of_the_greatest_least_depth(self):
        chain = {name: record(needs(follower)) for name, follower in zip("bcdefg", "cdefgh")}
        for kind in ("record", "union"):
            for old, new in self.pairs(kind):
                bodies = [dict(chain, h=("list", NUMBER, 1, 2), z=self.filled(body, "b")) for body in (old, new)]
                before, after = [("z", tuple(sorted(found.items()))) for found in bodies]
                if kind == "record":
                    self.assertEqual(least_depths(before)["z"], 8)
                self.assert_breaks(before, after)
        before = schema(a=record(needs("b", 1), may_have("b", 2)), **chain, h=record())
        self.assert_breaks(before, schema(a=record(needs("b", 1)), **chain, h=record()))
        self.assert_breaks(before, schema(a=record(needs("b", 1), may_have("b", 2)), **chain, h=("list", NUMBER, 1, 1)))
        cases = schema(a=union((1, "b"), (2, "b")), **chain, h=record())
        self.assert_breaks(cases, schema(a=union((1, "b")), **chain, h=record()))
        self.assert_breaks(cases, schema(a=union((1, "b"), is_open=True), **chain, h=record()))


class RandomSchemas(Checks):
    def test_either_a_certificate_or_a_counterexample(self):
        random = Random(71)
        many = {True: 0, False: 0}
        for _ in range(500):
            first = draw_schema(random)
            second = draw_schema(random)
            like = draw_like(random, first)
            after = draw_next(random, first)
            for old, new in ((first, second), (first, like), (like, first), (first, after), (after, first)):
                holds = certificate_holds(old, new, reachable_pairs(old, new))
                many[holds] += 1
                if holds:
                    self.assert_follows(old, new)
                else:
                    self.assert_breaks(old, new)
        self.assertGreater(min(many.values()), 300)

    def test_a_counterexample_is_none_for_a_schema_that_follows(self):
        random = Random(73)
        for _ in range(100):
            old = draw_schema(random)
            new = draw_next(random, old)
            # What breaks for other schemas can't be told along these.
            for other in (draw_schema(random), draw_like(random, old), draw_like(random, new)):
                for found in (decide(old, other), decide(other, new), decide(new, old)):
                    if found[0] == "breaks":
                        self.assertIs(counterexample_holds(old, new, found[1]), False)

    def test_messages_are_read_alike_along_steps_that_follow(self):
        random = Random(79)
        for _ in range(100):
            before = draw_schema(random)
            old = draw_next(random, before)
            new = draw_next(random, old)
            after = draw_next(random, new)
            for _ in range(3):
                found = (before, after, draw_value(random, before, before[0]))
                self.assertIs(counterexample_holds(old, new, found), False)


class Arguments(unittest.TestCase):
    def test_arguments_stay_as_they_were(self):
        for _, old, new in BROKEN_BODIES:
            pair = (placed("behind lists", old), placed("behind lists", new))
            kept = copy.deepcopy(pair)
            first, second = decide(*pair), decide(*pair)
            self.assertIs(follows(*pair), False)
            self.assertEqual((pair, first), (kept, second))


class Interface(unittest.TestCase):
    def test_each_function_is_defined_in_its_module(self):
        for function in (follows, decide, counterexample_holds):
            self.assertEqual(function.__module__, "schemabridge.deciding")

    def test_parameters_have_the_names_of_the_document(self):
        self.assertIs(follows(old=LISTS, new=LISTS), True)
        self.assertEqual(decide(old=LISTS, new=LISTS), ("follows", (("a", "a"),)))
        self.assertIs(counterexample_holds(old=LISTS, new=LISTS, found=(LISTS, LISTS, ())), False)


if __name__ == "__main__":
    unittest.main()
