"""Registry: points 1, 18, 23, 28, 31 and 32."""

import copy
import unittest
from random import Random

from schemabridge.codec import decode, encode
from schemabridge.deciding import counterexample_holds, follows
from schemabridge.errors import (
    BridgeError, Clash, InvalidSchema, InvalidValue, NoRoute, Refused, TooLarge, UnknownVersion)
from schemabridge.grounds import reachable_pairs
from schemabridge.merging import merge
from schemabridge.pump import convert
from schemabridge.reading import read, read_route
from schemabridge.registry import Registry
from schemabridge.schemas import is_valid
from tests.building import DEEP, LISTS, NUMBER, TEXT, may_have, needs, numbers, record, schema, union
from tests.sampling import draw_value
from tests.versions import BOTH, FIRST, LEFT, RIGHT, branches, draw_registry

# What no other one of these follows.
STRANGE = schema(a=record(needs(TEXT, 1)))
INVALID = (
    ("a", ()), ("b", FIRST[1]), schema(a=record(needs("a"))), schema(a=record(needs("c"))), schema(A=record()),
    schema(a=numbers(99), b=record(needs("a"))), schema(a=record(retired=(3, 2))), schema(a=union()),
    schema(a=record(needs(("number", 3, 2)))), schema(a=record((1, NUMBER, "default", None))))
UNKNOWN = (-1, 4, 5, 99, -99, 10 ** 20)


class Checks(unittest.TestCase):
    def setUp(self):
        self.registry = branches()

    def state(self):
        many = len(self.registry)
        return [(self.registry.schema(version), self.registry.parents(version)) for version in range(many)]

    def assert_refused(self, error, call, *arguments, **keywords):
        """Checks that a call raises just that error and adds nothing; returns the error."""
        before = self.state()
        with self.assertRaises(BridgeError) as caught:
            call(*arguments, **keywords)
        self.assertIs(caught.exception.__class__, error)
        self.assertEqual(self.state(), before)
        return caught.exception


class Versions(Checks):
    def test_an_empty_registry(self):
        registry = Registry()
        self.assertEqual(len(registry), 0)
        for version in (0, 1, -1):
            self.assertIs(version in registry, False)

    def test_numbers_and_schemas(self):
        self.assertEqual(len(self.registry), 4)
        for version, found in enumerate((FIRST, LEFT, RIGHT, BOTH)):
            self.assertEqual(self.registry.schema(version), found)

    def test_which_versions_there_are(self):
        for version in range(4):
            self.assertIs(version in self.registry, True)
        for version in UNKNOWN:
            self.assertIs(version in self.registry, False)

    def test_start(self):
        self.assertEqual(self.registry.start(STRANGE), 4)
        self.assertEqual(self.registry.start(FIRST), 5)
        self.assertEqual((self.registry.parents(4), self.registry.parents(5)), ((), ()))
        self.assertEqual(len(self.registry), 6)

    def test_start_with_a_schema_that_is_not_valid(self):
        for found in INVALID:
            self.assertIs(is_valid(found), False)
            self.assert_refused(InvalidSchema, self.registry.start, found)

    def test_parents(self):
        self.assertEqual([self.registry.parents(version) for version in range(4)], [(), (0,), (0,), (2, 1)])
        self.assertEqual(self.registry.admit(BOTH, parents=[3, 0, 3, 3, 1]), 4)
        self.assertEqual(self.registry.parents(4), (3, 0, 3, 3, 1))

    def test_unknown_versions(self):
        for version in UNKNOWN:
            for call in (self.registry.schema, self.registry.parents):
                self.assert_refused(UnknownVersion, call, version)
            for call in (
                    self.registry.reaches, self.registry.certificate, self.registry.bridge, self.registry.merge):
                self.assert_refused(UnknownVersion, call, version, 0)
                self.assert_refused(UnknownVersion, call, 3, version)
                self.assert_refused(UnknownVersion, call, version, version)
            self.assert_refused(UnknownVersion, self.registry.read, version, 0, ())
            self.assert_refused(UnknownVersion, self.registry.read, 3, version, "no message")


class Admission(Checks):
    def test_a_schema_follows_itself(self):
        self.assertEqual(self.registry.admit(BOTH, parents=[3]), 4)
        self.assertEqual(self.registry.admit(BOTH, parents=[4, 3]), 5)

    def test_refused_by_the_first_parent_that_is_not_followed(self):
        self.registry.start(STRANGE)
        for parents, parent in (
                ((4,), 4), ((3,), 3), ((0, 3), 3), ((0, 1, 2), 2), ((2, 0), 2), ((2, 4), 2), ((4, 2), 4),
                ((0, 0, 3, 2), 3), ((0, 1, 4, 3, 2, 4), 4)):
            for given in (parents, list(parents)):
                error = self.assert_refused(Refused, self.registry.admit, LEFT, parents=given)
                self.assertEqual(error.parent, parent)
                self.assertIs(counterexample_holds(self.registry.schema(parent), LEFT, error.counterexample), True)

    def test_refused_by_each_parent(self):
        for parent, found in ((1, FIRST), (2, FIRST), (3, FIRST), (0, STRANGE), (1, RIGHT), (3, RIGHT)):
            error = self.assert_refused(Refused, self.registry.admit, found, parents=[parent])
            before, after, message = error.counterexample
            self.assertEqual(error.parent, parent)
            self.assertIs(counterexample_holds(self.registry.schema(parent), found, (before, after, message)), True)

    def test_order_of_errors(self):
        for found in INVALID + (STRANGE,):
            for version in UNKNOWN:
                for parents in ([version], [0, version], [version, 0], [0, 1, version, 2], (3, version, 3)):
                    self.assert_refused(UnknownVersion, self.registry.admit, found, parents=parents)
        for found in INVALID:
            self.assert_refused(InvalidSchema, self.registry.admit, found, parents=[0])
            self.assert_refused(InvalidSchema, self.registry.admit, found, parents=(3, 2, 1, 0))

    def test_a_list_of_parents_may_be_changed_afterwards(self):
        parents = [1, 2]
        version = self.registry.admit(BOTH, parents=parents)
        self.assertEqual(parents, [1, 2])
        parents[0] = 0
        parents.append(3)
        self.assertEqual(self.registry.parents(version), (1, 2))
        parents.clear()
        self.assertIs(self.registry.reaches(1, version), True)
        self.assertIs(self.registry.reaches(3, version), False)


class Merging(Checks):
    def test_two_branches(self):
        version = self.registry.merge(1, 2)
        self.assertEqual(version, 4)
        self.assertEqual(self.registry.schema(4), merge(LEFT, RIGHT))
        self.assertEqual(self.registry.parents(4), (1, 2))
        self.assertEqual(self.registry.parents(self.registry.merge(2, 1)), (2, 1))
        self.assertTrue(follows(self.registry.schema(4), BOTH) and follows(BOTH, self.registry.schema(4)))
        self.assertEqual(self.registry.admit(BOTH, parents=[4, 5]), 6)

    def test_one_version_with_itself(self):
        self.assertEqual(self.registry.parents(self.registry.merge(3, 3)), (3, 3))
        self.assertTrue(self.registry.reaches(3, 4) and self.registry.reaches(0, 4))

    def test_versions_without_a_common_one(self):
        self.registry.start(LISTS)
        error = self.assert_refused(Clash, self.registry.merge, 0, 4)
        self.assertEqual(error.depth, 0)
        self.registry.start(schema(a=("list", "b", 0, 5), b=("list", NUMBER, 0, 5)))
        self.registry.start(schema(a=("list", "b", 0, 5), b=("list", TEXT, 0, 5)))
        self.assertEqual(self.assert_refused(Clash, self.registry.merge, 5, 6).depth, 2)
        self.assertEqual(self.assert_refused(Clash, self.registry.merge, 4, 5).depth, 2)

    def test_a_version_that_would_be_too_large(self):
        names = "abcdefgh"
        for number in (1, 2):
            self.registry.start(schema(**{
                name: record(*(may_have(names[place + 1], number) for _ in range(place < 7)))
                if place < 7 else record() for place, name in enumerate(names)}))
        self.assert_refused(TooLarge, self.registry.merge, 4, 5)
        self.assert_refused(TooLarge, self.registry.merge, 5, 4)
        self.assertEqual(self.registry.merge(4, 4), 6)


class Routes(Checks):
    def test_which_versions_are_reached(self):
        reached = {(0, 1), (0, 2), (0, 3), (1, 3), (2, 3)} | {(version, version) for version in range(4)}
        for old in range(4):
            for new in range(4):
                self.assertIs(self.registry.reaches(old, new), (old, new) in reached)

    def test_versions_that_follow_without_a_chain_of_parents(self):
        version = self.registry.start(BOTH)
        self.assertTrue(follows(FIRST, BOTH) and follows(BOTH, BOTH))
        for old in range(4):
            self.assertIs(self.registry.reaches(old, version), False)
            self.assertIs(self.registry.reaches(version, old), False)
        next_one = self.registry.admit(BOTH, parents=[version])
        self.assertIs(self.registry.reaches(version, next_one), True)
        self.assertIs(self.registry.reaches(0, next_one), False)

    def test_long_chains_and_many_of_them(self):
        for _ in range(48):
            last = len(self.registry) - 1
            self.registry.admit(BOTH, parents=[last])
            self.registry.admit(BOTH, parents=[last, last + 1, last])
        self.assertEqual(len(self.registry), 100)
        for old in range(0, 100, 7):
            for new in range(0, 100, 9):
                self.assertIs(self.registry.reaches(old, new), old <= new if old > 2 and new > 2 else
                              new > 2 or (old, new) == (0, 0))

    def test_reading_along_several_chains(self):
        random = Random(107)
        for _ in range(50):
            value = draw_value(random, FIRST, "a")
            expected = self.registry.read(0, 3, value)
            self.assertEqual(expected, read_route([FIRST, LEFT, BOTH], value))
            self.assertEqual(expected, read_route([FIRST, RIGHT, BOTH], value))
            self.assertEqual(expected, self.registry.read(1, 3, self.registry.read(0, 1, value)))
            self.assertEqual(convert(self.registry.bridge(0, 3), encode(FIRST, value)), encode(BOTH, expected))

    def test_a_version_and_itself(self):
        self.assertEqual(self.registry.read(1, 1, ((2, "abc"),)), ((2, "abc"),))
        self.assertEqual(convert(self.registry.bridge(1, 1), [0, 0]), [0, 0])
        self.assertEqual(self.registry.certificate(1, 1), (("a", "a"),))

    def test_random_registries(self):
        random = Random(109)
        for _ in range(30):
            registry = draw_registry(random, 6)
            many = len(registry)
            for old in range(many):
                value = draw_value(random, registry.schema(old), registry.schema(old)[0])
                for new in range(old, many):
                    if registry.reaches(old, new):
                        self.check_route(registry, old, new, value)

    def check_route(self, registry, old, new, value):
        before, after = registry.schema(old), registry.schema(new)
        self.assertIs(follows(before, after), True)
        expected = read(before, after, value)
        self.assertEqual(registry.read(old, new, value), expected)
        for parent in registry.parents(new):
            if registry.reaches(old, parent):
                between = registry.read(old, parent, value)
                self.assertEqual(registry.read(parent, new, between), expected)
        octets = convert(registry.bridge(old, new), encode(before, value))
        self.assertEqual(decode(after, octets), expected)
        self.assertEqual(registry.certificate(old, new), reachable_pairs(before, after))
        self.assertEqual(len(registry.bridge(old, new)), len(reachable_pairs(before, after)))


class Reading(Checks):
    def test_certificates_and_bridges(self):
        inner = union((1, NUMBER), is_open=True)
        registry = Registry()
        registry.start(schema(a=record(may_have("c", 1), may_have("b", 2)), b=("list", "c", 0, 5), c=inner))
        registry.admit(
            ("x", (("k", inner), ("l", ("list", "k", 0, 9)), ("x", record(may_have("k", 1), may_have("l", 2))))),
            parents=[0])
        self.assertEqual(registry.certificate(0, 1), (("a", "x"), ("b", "l"), ("c", "k")))
        self.assertEqual(len(registry.bridge(0, 1)), 3)
        self.assertEqual(registry.read(0, 1, ((2, ((1, 5),)),)), ((2, ((1, 5),)),))
        for call in (registry.certificate, registry.bridge):
            with self.assertRaises(NoRoute):
                call(1, 0)

    def test_no_route(self):
        self.registry.start(FIRST)
        for old, new in ((1, 0), (3, 0), (1, 2), (2, 1), (3, 2), (0, 4), (4, 0), (4, 3)):
            for call in (self.registry.certificate, self.registry.bridge):
                self.assert_refused(NoRoute, call, old, new)
            for value in ((), ((1, 5),), "no message", None, ((1, 5), (9, 9))):
                self.assert_refused(NoRoute, self.registry.read, old, new, value)

    def test_values_that_are_no_messages(self):
        for value in ((), 5, "ab", None, ((1, 10),), ((1, 5), (2, "abc")), ((2, "abc"),), (1, 5), ((1, None),)):
            for new in range(4):
                self.assert_refused(InvalidValue, self.registry.read, 0, new, value)

    def test_depths(self):
        for found, deep in DEEP:
            registry = Registry()
            registry.start(found)
            registry.admit(found, parents=[0])
            self.assertEqual(registry.read(0, 1, deep(80)), deep(80))
            for levels in (81, 150):
                with self.assertRaises(InvalidValue):
                    registry.read(0, 1, deep(levels))


class Arguments(Checks):
    def test_arguments_stay_as_they_were(self):
        value = ((1, 5),)
        parents = [1, 2, 1]
        before = copy.deepcopy((BOTH, parents, value))
        self.registry.admit(BOTH, parents=parents)
        self.registry.read(0, 4, value)
        self.assertEqual((BOTH, parents, value), before)

    def test_two_registries_share_nothing(self):
        other = Registry()
        self.assertEqual((len(other), len(self.registry)), (0, 4))
        self.assertEqual(other.start(STRANGE), 0)
        self.registry.start(LISTS)
        self.assertEqual((len(other), len(self.registry)), (1, 5))
        self.assertEqual((other.schema(0), self.registry.schema(0)), (STRANGE, FIRST))
        with self.assertRaises(UnknownVersion):
            other.admit(BOTH, parents=[1])


class Interface(unittest.TestCase):
    def test_each_method_is_defined_in_the_class(self):
        self.assertEqual(Registry.__module__, "schemabridge.registry")
        for name in (
                "__init__", "__len__", "__contains__", "start", "admit", "merge", "schema", "parents", "reaches",
                "certificate", "bridge", "read"):
            self.assertIn(name, vars(Registry))

    def test_parameters_have_the_names_of_the_document(self):
        registry = Registry()
        self.assertEqual(registry.start(schema=FIRST), 0)
        self.assertEqual(registry.admit(schema=LEFT, parents=[0]), 1)
        self.assertEqual(registry.admit(RIGHT, parents=[0]), 2)
        self.assertEqual(registry.merge(first=1, second=2), 3)
        self.assertEqual(registry.schema(version=0), FIRST)
        self.assertEqual(registry.parents(version=3), (1, 2))
        self.assertIs(registry.reaches(old=0, new=3), True)
        self.assertEqual(registry.certificate(old=0, new=1), (("a", "a"),))
        self.assertEqual(len(registry.bridge(old=0, new=1)), 1)
        self.assertEqual(registry.read(old=0, new=1, value=((1, 5),)), ((1, 5),))

    def test_parents_are_passed_by_keyword(self):
        registry = Registry()
        registry.start(FIRST)
        with self.assertRaises(TypeError):
            registry.admit(FIRST, [0])


if __name__ == "__main__":
    unittest.main()
