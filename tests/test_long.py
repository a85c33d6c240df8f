"""Long things through every module: many definitions, long names, many symbols, cases, fields and items."""

import unittest

from schemabridge.bridges import build
from schemabridge.codec import decode, encode, encode_part
from schemabridge.deciding import counterexample_holds, decide, follows
from schemabridge.errors import BadOctets, PowerLost, TooLarge
from schemabridge.fleet import Fleet
from schemabridge.grounds import certificate_holds, compose, reachable_pairs
from schemabridge.leaves import is_leaf_value, is_valid_leaf, simple_leaf_value
from schemabridge.merging import clash_depth, join_leaf, merge
from schemabridge.meta import octets_schema, schema_octets, schema_value, value_schema
from schemabridge.pump import Pump, convert
from schemabridge.reading import read, read_part, read_route
from schemabridge.registry import Registry
from schemabridge.schemas import body_of, is_valid, least_depths, with_body
from schemabridge.steps import body_follows, inner_pairs, leaf_follows
from schemabridge.store import Store
from schemabridge.values import depth, is_message, is_of, simple_value, value_count
from tests.building import FARTHEST, defaults, may_have, needs, record, schema, union

NAMES = tuple("abcdefghijkl"[:11] + last for last in "stuvwxyz")
S, T, U, V, W, X, Y, Z = NAMES
ALL_SYMBOLS = ("choice", tuple(range(1, 100)), (), False)
# Every third symbol is retired.
FEWER_SYMBOLS = ("choice", tuple(n for n in range(1, 100) if n % 3), tuple(range(3, 100, 3)), True)
LONG_TEXT = ("text", 0, 40)
LARGE_NUMBER = ("number", -FARTHEST, FARTHEST)
PARTS = (ALL_SYMBOLS, LONG_TEXT, LARGE_NUMBER, U, V)


def fields(choice, first, last):
    """Optional fields with the ids from first to last, among them those with that choice."""
    return tuple(
        may_have(choice if number % 5 == 0 else PARTS[number % 5], number) for number in range(first, last + 1))


def cases(choice, first, last):
    parts = (choice, LONG_TEXT, S, T, W)
    return tuple((number, parts[number % 5]) for number in range(first, last + 1))


def long_schema(choice, first, cases_first, retired=()):
    """A schema of eight definitions that need themselves and one another."""
    return schema(**{
        S: record(*fields(choice, first, 40), needs(W, 50), retired=retired),
        T: ("list", U, 0, 99),
        U: union(*cases(choice, cases_first, 60), retired=tuple(range(1, cases_first)), is_open=True),
        V: ("list", W, 0, 99),
        W: record(may_have(X, 1), defaults(LONG_TEXT, "~" * 40, 2), needs(LARGE_NUMBER, 99)),
        X: ("list", choice, 0, 99),
        Y: ("list", Z, 0, 99),
        Z: record(*fields(choice, first, 40), may_have(Y, 60), retired=retired)})


OLD = long_schema(ALL_SYMBOLS, 1, 1)
NEW = long_schema(FEWER_SYMBOLS, 11, 21, tuple(range(1, 11)))
SMALL = ((1, tuple(range(1, 100))), (2, "a" * 40), (99, -FARTHEST))
SMALL_READ = ((1, tuple(n if n % 3 else 0 for n in range(1, 100))), (2, "a" * 40), (99, -FARTHEST))
ITEMS = tuple((31, "z" * 40) for _ in range(90)) + ((1, "dropped"), (0, None), (40, 99), (35, 98), (60, 1), (34, SMALL))
ITEMS_READ = (
    tuple((31, "z" * 40) for _ in range(90)) + ((0, None), (0, None), (40, 0), (35, 98), (60, 1), (34, SMALL_READ)))
VALUE = ((1, "abc"), (10, 99), (15, 99), (16, "b" * 40), (17, FARTHEST), (18, (40, 2)), (19, (SMALL,) * 9), (50, SMALL))
VALUE_READ = (
    (15, 0), (16, "b" * 40), (17, FARTHEST), (18, (40, 2)), (19, (SMALL_READ,) * 9), (50, SMALL_READ))


class Schemas(unittest.TestCase):
    def test_what_they_are(self):
        for found in (OLD, NEW):
            self.assertEqual((len(found[1]), {len(name) for name in dict(found[1])}), (8, {12}))
            self.assertIs(is_valid(found), True)
            self.assertEqual(least_depths(found)[S], 2)
        self.assertEqual(with_body(OLD, S, body_of(OLD, S)), OLD)

    def test_leaves(self):
        for leaf in PARTS[:3] + (FEWER_SYMBOLS,):
            self.assertIs(is_valid_leaf(leaf), True)
            self.assertIs(is_leaf_value(leaf, simple_leaf_value(leaf)), True)
        self.assertIs(leaf_follows(ALL_SYMBOLS, FEWER_SYMBOLS), True)
        self.assertIs(leaf_follows(FEWER_SYMBOLS, ALL_SYMBOLS), False)
        self.assertEqual(join_leaf(ALL_SYMBOLS, FEWER_SYMBOLS), FEWER_SYMBOLS)

    def test_schemas_as_messages(self):
        for found in (OLD, NEW):
            self.assertEqual(value_schema(schema_value(found)), found)
            self.assertEqual(octets_schema(schema_octets(found)), found)


class Values(unittest.TestCase):
    def test_messages(self):
        self.assertTrue(is_message(OLD, VALUE) and is_message(NEW, VALUE_READ))
        self.assertEqual(depth(OLD, S, VALUE), 4)
        self.assertEqual(value_count(OLD, S, VALUE), 7 + 1 + 1 + 10 * 103)
        self.assertEqual(simple_value(OLD, S), ((50, ((2, "~" * 40), (99, 0))),))
        self.assertIs(is_of(OLD, T, ITEMS + ((0, None),) * 4), False)

    def test_octets(self):
        self.assertEqual(decode(OLD, encode(OLD, VALUE)), VALUE)
        self.assertEqual(encode_part(OLD, X, tuple(range(1, 100))), [99] + list(range(1, 100)))

    def test_reading(self):
        self.assertEqual(read(OLD, NEW, VALUE), VALUE_READ)
        self.assertEqual(read_part(OLD, NEW, T, T, ITEMS), ITEMS_READ)
        self.assertEqual(read_route([OLD] * 50 + [NEW] * 50, VALUE), VALUE_READ)


class Steps(unittest.TestCase):
    def test_following(self):
        self.assertIs(follows(OLD, NEW), True)
        self.assertEqual(decide(OLD, NEW), ("follows", reachable_pairs(OLD, NEW)))
        self.assertEqual(reachable_pairs(OLD, NEW), tuple((name, name) for name in (S, T, U, V, W, X)))
        self.assertIs(certificate_holds(OLD, NEW, tuple((name, name) for name in NAMES[::-1])), True)
        pairs = reachable_pairs(OLD, NEW)
        self.assertEqual(compose(pairs, pairs), pairs)
        for name in NAMES:
            self.assertIs(body_follows(body_of(OLD, name), body_of(NEW, name)), True)
        self.assertEqual(len(inner_pairs(body_of(OLD, U), body_of(NEW, U))), 40)

    def test_breaking(self):
        word, found = decide(NEW, OLD)
        self.assertEqual(word, "breaks")
        self.assertIs(counterexample_holds(NEW, OLD, found), True)
        self.assertIs(counterexample_holds(OLD, NEW, found), False)
        # The only broken rule is behind all of the others.
        for leaf in (LARGE_NUMBER, FEWER_SYMBOLS):
            broken = with_body(NEW, X, ("list", leaf, 0, 98))
            word, found = decide(OLD, broken)
            self.assertEqual(word, "breaks")
            self.assertIs(counterexample_holds(OLD, broken, found), True)

    def test_definitions_that_all_meet(self):
        # Eight records of forty fields each: there are many chains from the roots to each pair.
        def tangle(shift, leaf):
            return schema(**{
                name: record(
                    *(may_have(NAMES[(place * shift + number) % 8], number) for number in range(1, 41)),
                    *((may_have(leaf, 41),) if place == 7 else ()), retired=(41,) if place != 7 and shift == 3 else ())
                for place, name in enumerate(NAMES)})
        old, new = tangle(1, LARGE_NUMBER), tangle(3, LARGE_NUMBER)
        self.assertGreater(len(reachable_pairs(old, new)), 30)
        self.assertIs(follows(old, new), True)
        broken = tangle(3, LONG_TEXT)
        word, found = decide(old, broken)
        self.assertEqual(word, "breaks")
        self.assertIs(counterexample_holds(old, broken, found), True)


class Merging(unittest.TestCase):
    def test_one_that_follows_the_other(self):
        self.assertIsNone(clash_depth(OLD, NEW))
        found = merge(OLD, NEW)
        self.assertEqual(len(found[1]), 6)
        self.assertTrue(follows(NEW, found) and follows(found, NEW))
        self.assertEqual(len(merge(OLD, OLD)[1]), 6)

    def test_too_many_definitions(self):
        rings = [schema(**{
            name: record(*(may_have(NAMES[(place + 1) % many], number) for number in range(1, 41)))
            for place, name in enumerate(NAMES[:many])}) for many in (7, 8)]
        with self.assertRaises(TooLarge):
            merge(rings[0], rings[1])
        self.assertEqual(len(merge(rings[1], rings[1])[1]), 8)


class Bridges(unittest.TestCase):
    def setUp(self):
        self.bridge = build(OLD, NEW, reachable_pairs(OLD, NEW))

    def test_octets(self):
        self.assertEqual(len(self.bridge), 6)
        octets = encode(OLD, VALUE)
        expected = encode(NEW, VALUE_READ)
        self.assertEqual(convert(self.bridge, octets), expected)
        pump = Pump(self.bridge)
        found = []
        for octet in octets:
            found.extend(pump.take([octet]))
        self.assertIs(pump.is_complete, True)
        self.assertEqual(found + pump.finish(), expected)

    def test_lists_of_99_items(self):
        items = tuple(((1, (1, 2, 3)), (2, ""), (99, number)) for number in range(99))
        expected = tuple(((1, (1, 2, 0)), (2, ""), (99, number)) for number in range(99))
        octets = encode(OLD, ((14, items), (19, items), (50, SMALL)))
        self.assertEqual(
            convert(self.bridge, octets), encode(NEW, ((14, expected), (19, expected), (50, SMALL_READ))))

    def test_faults(self):
        octets = encode(OLD, VALUE)
        for many in range(0, len(octets), 7):
            with self.assertRaises(BadOctets) as caught:
                convert(self.bridge, octets[:many])
            self.assertEqual((caught.exception.at, caught.exception.reason), (many, "end"))


class Versions(unittest.TestCase):
    def setUp(self):
        self.registry = Registry()
        self.registry.start(OLD)
        for version in range(1, 100):
            self.registry.admit(OLD if version < 50 else NEW, parents=[version - 1])

    def test_a_registry(self):
        self.assertEqual(len(self.registry), 100)
        self.assertIs(self.registry.reaches(0, 99), True)
        self.assertEqual(self.registry.read(0, 99, VALUE), VALUE_READ)
        self.assertEqual(len(self.registry.bridge(0, 99)), 6)
        self.assertEqual(self.registry.certificate(49, 50), reachable_pairs(OLD, NEW))

    def test_a_fleet(self):
        fleet = Fleet(self.registry)
        hosts = [fleet.add_host(version) for version in range(100)]
        letter = fleet.send(hosts[0], VALUE)
        for host in range(0, 100, 10):
            letter = fleet.relay(host, letter)
            self.assertIs(fleet.deliver(99, letter), True)
        self.assertEqual(fleet.inbox(99), ((0, 99, VALUE_READ),) * 10)
        self.assertEqual(fleet.letter(letter), (0, 90, tuple(encode(NEW, VALUE_READ))))
        for _ in range(200):
            self.assertIs(fleet.deliver(0, letter), False)
        self.assertEqual(fleet.held(0), (0,) * 200)
        self.assertEqual(fleet.upgrade(0, 95), 200)
        self.assertEqual(fleet.inbox(0), ((0, 95, VALUE_READ),) * 200)

    def test_a_store(self):
        store = Store(self.registry)
        for slot in range(100):
            store.put(slot, VALUE, version=slot % 50)
        self.assertEqual(store.compact(version=70), 100)
        self.assertEqual([store.slot_version(slot) for slot in range(100)], [70] * 100)
        self.assertIs(store.migrate(5, version=99), True)
        for slot in range(0, 100, 9):
            self.assertEqual(store.fetch(slot, version=99), VALUE_READ)
        store.limit(1000)
        with self.assertRaises(PowerLost):
            store.compact(version=99)
        self.assertEqual(store.reopen(), 100)
        self.assertEqual(store.slot_version(5), 99)
        self.assertEqual(store.slots(), tuple(range(100)))


if __name__ == "__main__":
    unittest.main()
