"""build and the size of a bridge: points 1, 22 and 29."""

import copy
import unittest
from random import Random

from schemabridge.bridges import Bridge, build
from schemabridge.errors import BridgeError, InvalidCertificate
from schemabridge.grounds import compose, reachable_pairs
from schemabridge.meta import META
from tests.building import LISTS, NUMBER, RECORDS, TEXT, UNIONS, may_have, needs, record, schema, union
from tests.rules import BROKEN_BODIES, CHAINS, KEPT_BODIES, placed
from tests.sampling import draw_next, draw_schema

OLD = schema(
    a=record(needs("b", 1), may_have("c", 2)), b=("list", "c", 0, 5), c=union((1, "a"), (2, TEXT), is_open=True),
    d=record(needs(NUMBER)))
NEW = schema(
    a=record(may_have("x", 1), may_have("z", 2), may_have("y", 3)), x=("list", "z", 0, 9), y=record(),
    z=union((1, "a"), (2, TEXT), (3, "y"), is_open=True))
PAIRS = (("a", "a"), ("b", "x"), ("c", "z"))


class Checks(unittest.TestCase):
    def assert_bridge(self, old, new, pairs, expected):
        bridge = build(old, new, pairs)
        self.assertIs(bridge.__class__, Bridge)
        self.assertEqual(len(bridge), expected)

    def assert_refused(self, old, new, pairs):
        with self.assertRaises(InvalidCertificate) as caught:
            build(old, new, pairs)
        self.assertEqual(caught.exception.__class__.__bases__, (BridgeError,))


class Certificates(Checks):
    def test_the_reachable_pairs(self):
        self.assert_bridge(OLD, NEW, PAIRS, 3)
        self.assert_bridge(OLD, NEW, reachable_pairs(OLD, NEW), 3)
        for found in (LISTS, RECORDS, UNIONS):
            self.assert_bridge(found, found, (("a", "a"),), 1)
        self.assert_bridge(META, META, reachable_pairs(META, META), 8)

    def test_any_order_and_repetitions(self):
        self.assert_bridge(OLD, NEW, PAIRS[::-1], 3)
        self.assert_bridge(OLD, NEW, (PAIRS[1], PAIRS[2], PAIRS[0]), 3)
        self.assert_bridge(OLD, NEW, PAIRS * 5, 3)
        self.assert_bridge(OLD, NEW, PAIRS[1:] + PAIRS, 3)

    def test_more_pairs_than_the_reachable_ones(self):
        # "d" is read by "y", which retires nothing and takes nothing, only if its field is retired there.
        spare = schema(**{**dict(NEW[1]), "y": record(retired=(1,))})
        self.assert_bridge(OLD, spare, PAIRS + (("d", "y"),), 3)
        self.assert_bridge(OLD, spare, (("d", "y"),) + PAIRS, 3)
        self.assert_bridge(OLD, OLD, tuple((name, name) for name in "abcd"), 3)

    def test_a_composition(self):
        random = Random(97)
        for _ in range(100):
            first = draw_schema(random)
            second = draw_next(random, first)
            third = draw_next(random, second)
            pairs = compose(reachable_pairs(first, second), reachable_pairs(second, third))
            self.assert_bridge(first, third, pairs, len(reachable_pairs(first, third)))

    def test_bodies_that_keep_the_rules(self):
        for old, new in KEPT_BODIES:
            for chain in CHAINS:
                before, after = placed(chain, old), placed(chain, new)
                pairs = reachable_pairs(before, after)
                self.assert_bridge(before, after, pairs, len(pairs))


class InvalidCertificates(Checks):
    def test_no_pairs(self):
        self.assert_refused(OLD, NEW, ())
        self.assert_refused(OLD, OLD, ())

    def test_a_pair_left_out(self):
        for place in range(3):
            self.assert_refused(OLD, NEW, PAIRS[:place] + PAIRS[place + 1:])
        self.assert_refused(OLD, OLD, (("d", "d"),))

    def test_a_pair_that_breaks_a_rule(self):
        for pair in (("d", "d"), ("d", "y"), ("a", "x"), ("c", "a"), ("b", "z")):
            self.assert_refused(OLD, NEW, PAIRS + (pair,))
            self.assert_refused(OLD, NEW, (pair,) + PAIRS)

    def test_a_name_that_does_not_exist(self):
        for pair in (("a", "b"), ("x", "x"), ("", ""), ("e", "a"), ("a", "e"), ("A", "a"), ("a b", "~"), ("z", "c")):
            self.assert_refused(OLD, NEW, PAIRS + (pair,))
        self.assert_refused(OLD, NEW, (("n", "m"),))

    def test_pairs_the_wrong_way_round(self):
        self.assert_refused(OLD, NEW, tuple((new, old) for old, new in PAIRS))
        self.assert_refused(NEW, OLD, PAIRS)

    def test_schemas_that_do_not_follow(self):
        for _, old, new in BROKEN_BODIES:
            for chain in CHAINS:
                before, after = placed(chain, old), placed(chain, new)
                self.assert_refused(before, after, reachable_pairs(before, after))


class Arguments(Checks):
    def test_arguments_stay_as_they_were(self):
        arguments = (OLD, NEW, PAIRS)
        kept = copy.deepcopy(arguments)
        first, second = build(*arguments), build(*arguments)
        self.assertEqual((arguments, len(first), len(second)), (kept, 3, 3))
        self.assertIsNot(first, second)


class Interface(unittest.TestCase):
    def test_where_all_is_defined(self):
        self.assertEqual((build.__module__, Bridge.__module__), ("schemabridge.bridges", "schemabridge.bridges"))
        self.assertIn("__len__", vars(Bridge))

    def test_parameters_have_the_names_of_the_document(self):
        self.assertEqual(len(build(old=OLD, new=NEW, pairs=PAIRS)), 3)


if __name__ == "__main__":
    unittest.main()
