"""reachable_pairs, certificate_holds and compose: points 1 and 20 to 23."""

import copy
import unittest

from schemabridge.grounds import certificate_holds, compose, reachable_pairs
from schemabridge.schemas import is_valid
from tests.building import (
    CHOICE, LISTS, NUMBER, RECORDS, TEXT, UNIONS, defaults, may_have, needs, record, schema, union)

# A schema in which definitions need themselves and one another.
OLD = ("note", (
    ("note", record(needs(TEXT, 1), may_have("notes", 2), may_have("topic", 3), retired=(9,))),
    ("notes", ("list", "note", 0, 9)),
    ("spare", record()),
    ("topic", union((1, TEXT), (2, "note"), (3, "topic"), is_open=True))))
NEW = ("entry", (
    ("all", ("list", "entry", 0, 99)),
    ("entry", record(
        may_have(TEXT, 1), may_have("all", 2), may_have("subject", 3), defaults(NUMBER, 4, 5), retired=(7, 9))),
    ("rest", record(needs(NUMBER))),
    ("subject", union((1, TEXT), (2, "entry"), (3, "subject"), (4, "rest"), is_open=True))))
PAIRS = (("note", "entry"), ("notes", "all"), ("topic", "subject"))


class Checks(unittest.TestCase):
    def assert_reachable(self, old, new, *expected):
        self.assertTrue(is_valid(old) and is_valid(new))
        found = reachable_pairs(old, new)
        self.assertEqual(found, expected)
        self.assertIs(found.__class__, tuple)
        self.assertTrue(all(pair.__class__ is tuple for pair in found))

    def assert_certificate(self, old, new, *pairs, holds=True):
        self.assertIs(certificate_holds(old, new, pairs), holds, pairs)


class ReachablePairs(Checks):
    def test_an_ordinary_pair_of_schemas(self):
        self.assert_reachable(OLD, NEW, *PAIRS)
        self.assert_reachable(NEW, OLD, *((new, old) for old, new in (PAIRS[1], PAIRS[0], PAIRS[2])))

    def test_the_roots_alone(self):
        self.assert_reachable(schema(a=record(), b=record()), schema(c=record(needs(NUMBER)), d=record()), ("a", "c"))
        self.assert_reachable(("b", schema(a=record(), b=record())[1]), schema(c=record(), d=record()), ("b", "c"))

    def test_a_schema_and_itself(self):
        self.assert_reachable(OLD, OLD, ("note", "note"), ("notes", "notes"), ("topic", "topic"))
        for found in (LISTS, RECORDS, UNIONS):
            self.assert_reachable(found, found, ("a", "a"))

    def test_roots_of_different_kinds(self):
        for old in (LISTS, RECORDS, UNIONS):
            for new in (LISTS, RECORDS, UNIONS):
                self.assert_reachable(old, new, ("a", "a"))

    def test_bodies_of_different_kinds_lead_no_further(self):
        old = schema(a=record(needs("b"), needs("c", 2)), b=("list", "d", 0, 5), c=record(may_have("d")), d=record())
        new = schema(
            a=record(needs("b"), needs("c", 2)), b=record(may_have("d")), c=record(may_have("e")), d=record(), e=record())
        self.assert_reachable(old, new, ("a", "a"), ("b", "b"), ("c", "c"), ("d", "e"))

    def test_broken_rules_lead_further_if_the_kinds_are_the_same(self):
        old = schema(
            a=record(needs("b"), needs("c", 2), defaults(NUMBER, 3, 3)), b=("list", "d", 0, 5), c=record(), d=record())
        new = schema(
            a=record(needs("b"), needs("c", 3), needs(NUMBER, 4)), b=("list", "d", 3, 3), c=record(), d=record())
        self.assert_reachable(old, new, ("a", "a"), ("b", "b"), ("d", "d"))

    def test_a_name_and_a_leaf_lead_no_further(self):
        old = schema(a=record(needs("b"), needs(NUMBER, 2), needs("b", 3)), b=record())
        new = schema(a=record(needs(NUMBER), needs("b", 2), needs("c", 3)), b=record(), c=record())
        self.assert_reachable(old, new, ("a", "a"), ("b", "c"))

    def test_several_pairs_of_one_name(self):
        old = schema(a=record(needs("b", 1), needs("b", 2), needs("c", 3)), b=record(may_have("c")), c=record())
        new = schema(
            a=record(needs("b", 1), needs("c", 2), needs("c", 3)), b=record(), c=record(may_have("d")), d=record())
        self.assert_reachable(old, new, ("a", "a"), ("b", "b"), ("b", "c"), ("c", "c"), ("c", "d"))

    def test_definitions_that_turn_in_circles(self):
        old = schema(a=("list", "b", 0, 5), b=("list", "a", 0, 5))
        new = schema(x=("list", "y", 0, 5), y=("list", "z", 0, 5), z=("list", "x", 0, 5))
        self.assert_reachable(old, new, ("a", "x"), ("a", "y"), ("a", "z"), ("b", "x"), ("b", "y"), ("b", "z"))

    def test_64_pairs(self):
        names = "abcdefgh"
        circle = list(zip(names, names[1:] + "a"))
        part = tuple((name, record(may_have(after, 1), may_have(name, 2))) for name, after in circle)
        other = tuple((name, record(may_have(name, 1), may_have(after, 2))) for name, after in circle)
        self.assert_reachable(("a", part), ("a", other), *((one, two) for one in names for two in names))

    def test_pairs_are_ascending_by_both_names(self):
        old = schema(a=union((1, "bb"), (2, "b"), (3, "c")), b=record(), bb=record(), c=record())
        new = schema(m=union((1, "n"), (2, "z"), (3, "n")), n=record(), z=record())
        self.assert_reachable(old, new, ("a", "m"), ("b", "z"), ("bb", "n"), ("c", "n"))

    def test_retired_ids_lead_no_further(self):
        old = schema(a=union((1, "b"), (2, "c"), is_open=True), b=record(), c=record())
        new = schema(a=union((2, "c"), retired=(1,), is_open=True), b=record(), c=record())
        self.assert_reachable(old, new, ("a", "a"), ("c", "c"))


class Certificates(Checks):
    def test_the_reachable_pairs_in_any_order(self):
        self.assert_certificate(OLD, NEW, *PAIRS)
        self.assert_certificate(OLD, NEW, *PAIRS[::-1])
        self.assert_certificate(OLD, NEW, PAIRS[1], PAIRS[2], PAIRS[0])

    def test_repetitions(self):
        self.assert_certificate(OLD, NEW, *PAIRS, *PAIRS)
        self.assert_certificate(OLD, NEW, PAIRS[1], *PAIRS, PAIRS[1], PAIRS[0])

    def test_no_pairs(self):
        self.assert_certificate(OLD, NEW, holds=False)
        self.assert_certificate(LISTS, LISTS, holds=False)

    def test_each_pair_is_needed(self):
        for place in range(3):
            self.assert_certificate(OLD, NEW, *PAIRS[:place], *PAIRS[place + 1:], holds=False)
        for pair in PAIRS:
            self.assert_certificate(OLD, NEW, pair, holds=False)

    def test_the_pair_of_the_roots_is_needed(self):
        old = schema(a=record(), b=record())
        self.assert_certificate(old, old, ("a", "a"))
        self.assert_certificate(old, old, ("b", "b"), holds=False)
        self.assert_certificate(old, old, ("a", "b"), ("b", "a"), holds=False)
        self.assert_certificate(("b", old[1]), old, ("b", "a"))
        self.assert_certificate(("b", old[1]), old, ("a", "a"), ("b", "b"), ("a", "b"), holds=False)

    def test_a_pair_more_that_keeps_the_rules(self):
        old = OLD
        new = (NEW[0], NEW[1][:2] + (("rest", record()),) + NEW[1][3:])
        self.assert_certificate(old, new, *PAIRS)
        self.assert_certificate(old, new, *PAIRS, ("spare", "rest"))
        self.assert_certificate(old, new, ("spare", "rest"), holds=False)

    def test_a_pair_more_that_breaks_the_rules(self):
        self.assert_certificate(OLD, NEW, *PAIRS, ("spare", "rest"), holds=False)
        self.assert_certificate(OLD, NEW, ("spare", "rest"), *PAIRS, holds=False)
        self.assert_certificate(OLD, NEW, *PAIRS, ("note", "all"), holds=False)
        self.assert_certificate(OLD, NEW, *PAIRS, ("notes", "subject"), holds=False)

    def test_a_pair_more_whose_inner_pairs_are_not_contained(self):
        old = schema(a=record(), b=("list", "a", 0, 5), c=("list", "b", 0, 5))
        new = schema(a=record(), b=record(), c=("list", "b", 0, 5), d=("list", "c", 0, 5))
        self.assert_certificate(old, new, ("a", "a"))
        self.assert_certificate(old, new, ("a", "a"), ("b", "c"), holds=False)
        self.assert_certificate(old, new, ("a", "a"), ("a", "b"), ("b", "c"))
        self.assert_certificate(old, new, ("a", "a"), ("c", "d"), ("b", "c"), holds=False)
        self.assert_certificate(old, new, ("a", "a"), ("c", "d"), ("b", "c"), ("a", "b"))

    def test_names_that_do_not_exist(self):
        self.assert_certificate(OLD, NEW, *PAIRS, ("note", "missing"), holds=False)
        self.assert_certificate(OLD, NEW, *PAIRS, ("missing", "entry"), holds=False)
        self.assert_certificate(OLD, NEW, *PAIRS, ("missing", "missing"), holds=False)
        self.assert_certificate(OLD, NEW, *PAIRS, ("", ""), holds=False)
        self.assert_certificate(OLD, NEW, *PAIRS, ("entry", "note"), holds=False)
        self.assert_certificate(OLD, NEW, ("x y", "Z"), holds=False)
        self.assert_certificate(OLD, NEW, *((new, old) for old, new in PAIRS), holds=False)

    def test_bodies_that_break_a_rule(self):
        for old_body, new_body in (
                (("list", NUMBER, 0, 5), ("list", NUMBER, 1, 5)), (("list", NUMBER, 0, 5), ("list", NUMBER, 0, 4)),
                (("list", NUMBER, 0, 5), ("list", TEXT, 0, 5)), (("list", "b", 0, 5), ("list", NUMBER, 0, 5)),
                (("list", NUMBER, 0, 5), ("list", "b", 0, 5)), (record(needs(NUMBER)), record()),
                (record(), record(needs(NUMBER))), (record(retired=(3,)), record()),
                (record(may_have("b")), record(needs("b"))), (union((1, "b"), (2, "b")), union((1, "b"))),
                (union((1, "b"), is_open=True), union((1, "b"))),
                (("list", CHOICE, 0, 5), ("list", ("choice", (1,), (), True), 0, 5)),
                (record(), union(is_open=True))):
            old = schema(a=old_body, b=record())
            new = schema(a=new_body, b=record())
            self.assertTrue(is_valid(old) and is_valid(new))
            self.assert_certificate(old, old, ("a", "a"), ("b", "b"))
            self.assert_certificate(old, new, ("a", "a"), ("b", "b"), holds=False)
            self.assert_certificate(old, new, *reachable_pairs(old, new), holds=False)

    def test_a_rule_that_is_broken_far_inside(self):
        old = schema(a=record(needs("b")), b=("list", "c", 0, 5), c=union((1, "d")), d=record(may_have(NUMBER)))
        for high, holds in ((9, True), (8, False)):
            new = schema(
                a=record(needs("b")), b=("list", "c", 0, 5), c=union((1, "d")), d=record(may_have(("number", 0, high))))
            self.assert_certificate(old, new, *reachable_pairs(old, new), holds=holds)

    def test_a_rule_that_is_broken_where_the_root_does_not_reach(self):
        old = schema(a=record(), b=("list", NUMBER, 0, 5))
        new = schema(a=record(), b=("list", NUMBER, 0, 4))
        self.assert_certificate(old, new, ("a", "a"))
        self.assert_certificate(old, new, ("a", "a"), ("b", "b"), holds=False)

    def test_each_name_may_be_in_several_pairs(self):
        old = schema(a=record(needs("b", 1), needs("b", 2)), b=record())
        new = schema(a=record(needs("b", 1), needs("c", 2)), b=record(), c=record(may_have(NUMBER)))
        self.assert_certificate(old, new, ("a", "a"), ("b", "b"), ("b", "c"))
        self.assert_certificate(old, new, ("a", "a"), ("b", "b"), holds=False)
        self.assert_certificate(old, new, ("a", "a"), ("b", "c"), holds=False)


class Compositions(unittest.TestCase):
    def assert_composed(self, first, second, *expected):
        found = compose(first, second)
        self.assertEqual(found, expected)
        self.assertIs(found.__class__, tuple)
        self.assertTrue(all(pair.__class__ is tuple for pair in found))

    def test_nothing_in_between(self):
        self.assert_composed((), ())
        self.assert_composed((("a", "b"),), ())
        self.assert_composed((), (("a", "b"),))
        self.assert_composed((("a", "b"),), (("a", "c"),))
        self.assert_composed((("a", "b"),), (("c", "b"), ("c", "a")))

    def test_one_in_between(self):
        self.assert_composed((("a", "b"),), (("b", "c"),), ("a", "c"))
        self.assert_composed((("a", "b"), ("x", "y")), (("b", "c"), ("y", "z")), ("a", "c"), ("x", "z"))
        self.assert_composed((("a", "a"),), (("a", "a"),), ("a", "a"))

    def test_two_in_between_for_the_same_pair(self):
        self.assert_composed((("a", "b"), ("a", "c")), (("b", "d"), ("c", "d")), ("a", "d"))

    def test_several_pairs_of_one_name(self):
        self.assert_composed(
            (("a", "b"), ("c", "b")), (("b", "d"), ("b", "e")), ("a", "d"), ("a", "e"), ("c", "d"), ("c", "e"))
        self.assert_composed((("a", "b"), ("a", "c")), (("b", "d"), ("c", "e")), ("a", "d"), ("a", "e"))

    def test_any_order_and_repetitions(self):
        self.assert_composed(
            (("z", "m"), ("a", "n"), ("z", "m")), (("n", "q"), ("m", "b"), ("n", "p"), ("m", "b")),
            ("a", "p"), ("a", "q"), ("z", "b"))

    def test_any_strings(self):
        self.assert_composed((("", " "), ("A b", "1")), (("1", "~"), (" ", "")), ("", ""), ("A b", "~"))

    def test_the_direction_counts(self):
        self.assert_composed((("b", "c"),), (("a", "b"),))
        self.assert_composed((("b", "a"),), (("b", "c"),))

    def test_all_pairs(self):
        names = "abcdefgh"
        pairs = tuple((one, two) for one in names for two in names)
        self.assert_composed(pairs, pairs, *pairs)


class Arguments(unittest.TestCase):
    def test_arguments_stay_as_they_were(self):
        first, second = PAIRS[::-1], (("all", "x"), ("entry", "y"))
        before = copy.deepcopy((OLD, NEW, PAIRS, first, second))
        for _ in range(2):
            self.assertEqual(reachable_pairs(OLD, NEW), PAIRS)
            self.assertIs(certificate_holds(OLD, NEW, first), True)
            self.assertEqual(compose(first, second), (("note", "y"), ("notes", "x")))
        self.assertEqual((OLD, NEW, PAIRS, first, second), before)


class Interface(unittest.TestCase):
    def test_each_function_is_defined_in_its_module(self):
        for function in (reachable_pairs, certificate_holds, compose):
            self.assertEqual(function.__module__, "schemabridge.grounds")

    def test_parameters_have_the_names_of_the_document(self):
        self.assertEqual(reachable_pairs(old=LISTS, new=LISTS), (("a", "a"),))
        self.assertIs(certificate_holds(old=LISTS, new=LISTS, pairs=(("a", "a"),)), True)
        self.assertEqual(compose(first=(("a", "b"),), second=(("b", "c"),)), (("a", "c"),))


if __name__ == "__main__":
    unittest.main()
