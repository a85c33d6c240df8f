"""Pump and convert: points 1, 6, 11, 12, 15, 29 and 30."""

import unittest
from random import Random

from schemabridge.bridges import build
from schemabridge.codec import decode, encode
from schemabridge.errors import BadOctets, BridgeError
from schemabridge.grounds import reachable_pairs
from schemabridge.meta import META, schema_value
from schemabridge.pump import Pump, convert
from schemabridge.reading import read
from schemabridge.values import is_message
from tests.building import (
    CHOICE, DEEP, FARTHEST, LISTS, NUMBER, RECORDS, TEXT, UNIONS, deep_lists, deep_records, deep_unions, defaults,
    may_have, needs, record, schema, union)
from tests.rules import CHAINS, KEPT_BODIES, KEPT_LEAVES, closed, leaf_bodies, opened, placed
from tests.sampling import draw_next, draw_schema, draw_value

# Fields 2, 4 and 6 are dropped by the next schema, and cases 2 and 4 as well.
OLD = schema(
    a=record(
        needs(NUMBER, 1), needs(TEXT, 2), may_have("b", 3), needs("c", 4), needs(opened((1, 2, 99)), 5),
        may_have("c", 6)),
    b=("list", "c", 0, 3), c=union((1, TEXT), (2, "a"), (3, "b"), (4, ("number", -999, 999)), is_open=True))
NEW = schema(
    a=record(
        may_have(NUMBER, 1), may_have("b", 3), needs(opened((1, 3), (2, 99)), 5), defaults(TEXT, "xyz", 7),
        may_have("c", 8), retired=(2, 4, 6)),
    b=("list", "c", 0, 9), c=union((1, ("text", 0, 9)), (3, "b"), (5, NUMBER), retired=(2, 4), is_open=True))
# A schema whose fields are all new ones.
ONLY_NEW = schema(a=record(defaults(TEXT, "ab", 6), may_have("a", 7)))


def bridge_of(old, new):
    return build(old, new, reachable_pairs(old, new))


def fault(call, *arguments):
    """The fault of the error that a call raises, None if it raises none."""
    try:
        call(*arguments)
    except BadOctets as error:
        return (error.at, error.reason)
    return None


class Checks(unittest.TestCase):
    def assert_converted(self, old, new, value, octets=None):
        """Checks the octets of a message, all at once and octet by octet."""
        given = encode(old, value)
        expected = encode(new, read(old, new, value))
        if octets is not None:
            self.assertEqual(expected, octets)
        bridge = bridge_of(old, new)
        self.assertEqual(convert(bridge, given), expected)
        pump = Pump(bridge)
        found = []
        for place, octet in enumerate(given):
            self.assertIs(pump.is_complete, False)
            found.extend(pump.take([octet]))
            self.assertIs(pump.is_complete, place == len(given) - 1)
        self.assertIs(pump.is_complete, True)
        self.assertEqual(found + pump.finish(), expected)

    def assert_fault(self, old, new, octets, expected):
        """Checks that convert and a pump raise the error that decoding by the old schema raises."""
        self.assertEqual(fault(decode, old, octets), expected)
        bridge = bridge_of(old, new)
        self.assertEqual(fault(convert, bridge, octets), expected)
        pump = Pump(bridge)
        for place in range(len(octets)):
            due = fault(decode, old, octets[:place + 1])
            found = fault(pump.take, octets[place:place + 1])
            if due is None or due[1] == "end":
                self.assertIsNone(found)
            else:
                self.assertEqual(found, due)
        if expected[1] == "end":
            self.assertIs(pump.is_complete, False)
            self.assertEqual(fault(pump.finish), expected)
        for _ in range(2):
            for again in ([], [0], [1, 2, 3], octets):
                self.assertEqual(fault(pump.take, again), expected)
            self.assertEqual(fault(pump.finish), expected)


class Leaves(Checks):
    def values(self, leaf):
        if leaf[0] == "number":
            return sorted({leaf[1], leaf[2], max(leaf[1], min(0, leaf[2])), (leaf[1] + leaf[2]) // 2})
        if leaf[0] == "text":
            return ["z" * leaf[1], "~" * leaf[2]]
        return leaf[1] + ((0,) if leaf[3] else ())

    def test_each_leaf_at_each_place(self):
        for old_leaf, new_leaf in KEPT_LEAVES + (
                (("number", -FARTHEST, FARTHEST), ("number", -FARTHEST, FARTHEST)),
                (("text", 0, 40), ("text", 0, 40))):
            for value in self.values(old_leaf):
                self.assert_converted(
                    schema(a=("list", old_leaf, 0, 5)), schema(a=("list", new_leaf, 0, 5)), (value,) * 3)
                for mode in (needs, may_have):
                    for new_mode in (mode, may_have):
                        self.assert_converted(
                            schema(a=record(mode(old_leaf, 3))), schema(a=record(new_mode(new_leaf, 3))), ((3, value),))
                    self.assert_converted(
                        schema(a=record(mode(old_leaf, 3))), schema(a=record(retired=(3,))), ((3, value),), [])
                self.assert_converted(schema(a=union((3, old_leaf))), schema(a=union((3, new_leaf))), (3, value))
                self.assert_converted(
                    schema(a=union((3, old_leaf))), schema(a=union(retired=(3,), is_open=True)), (3, value), [0])

    def test_leaves_beside_others(self):
        random = Random(137)
        for old_leaf, new_leaf in KEPT_LEAVES:
            for old, new in leaf_bodies(old_leaf, new_leaf):
                for _ in range(3):
                    self.assert_converted(schema(z=old), schema(z=new), draw_value(random, schema(z=old), "z"))

    def test_symbols(self):
        old = schema(a=("list", opened((1, 2, 99), (5,)), 0, 9))
        new = schema(a=("list", opened((1, 3), (2, 5, 99)), 0, 9))
        self.assert_converted(old, new, (1, 2, 0, 99, 1), [5, 1, 0, 0, 0, 1])


class Bodies(Checks):
    def test_lists(self):
        old, new = schema(a=("list", NUMBER, 1, 3)), schema(a=("list", ("number", -9, 99), 0, 99))
        for value in ((5,), (5, 9), (0, 1, 2)):
            self.assert_converted(old, new, value, [len(value)] + [2 * number for number in value])
        self.assert_converted(new, new, (-9, 99), [2, 17, 198, 1])
        self.assert_converted(new, new, (), [0])
        self.assert_converted(new, new, (1,) * 99, [99] + [2] * 99)

    def test_fields_that_stay(self):
        for mode, octets in ((needs, [10]), (may_have, [1, 10]), (lambda part: defaults(part, 7), [10])):
            self.assert_converted(schema(a=record(needs(NUMBER))), schema(a=record(mode(NUMBER))), ((1, 5),), octets)
        found = schema(a=record(may_have(NUMBER)))
        self.assert_converted(found, found, (), [0])
        self.assert_converted(found, found, ((1, 5),), [1, 10])
        self.assert_converted(found, schema(a=record(defaults(NUMBER, 7))), (), [14])
        self.assert_converted(found, schema(a=record(defaults(NUMBER, 7))), ((1, 5),), [10])
        found = schema(a=record(defaults(NUMBER, 7)))
        self.assert_converted(found, found, ((1, 5),), [10])
        self.assert_converted(found, found, ((1, 7),), [14])

    def test_new_fields(self):
        old = schema(a=record(needs(NUMBER, 4)))
        new = schema(a=record(
            may_have(NUMBER, 1), defaults(NUMBER, 5, 2), needs(NUMBER, 4), defaults(TEXT, "ab", 6), may_have("a", 7)))
        self.assert_converted(old, new, ((4, 3),), [0, 10, 6, 2, 97, 98, 0])
        self.assert_converted(schema(a=record()), ONLY_NEW, (), [2, 97, 98, 0])

    def test_dropped_fields(self):
        old = schema(
            a=record(needs(TEXT, 1), may_have("b", 2), needs(NUMBER, 3), needs("c", 4), defaults(NUMBER, 7, 5)),
            b=("list", "c", 0, 5), c=union((1, "b"), (2, NUMBER), is_open=True))
        new = schema(a=record(needs(NUMBER, 3), retired=(1, 2, 4, 5)))
        for fields in (
                ((1, "abc"), (3, 5), (4, (0, None)), (5, 0)),
                ((1, "abc"), (2, ()), (3, 5), (4, (2, 7)), (5, 1)),
                ((1, "abcde"), (2, ((1, ((2, 3), (0, None))), (2, 0))), (3, 5), (4, (1, ())), (5, 9))):
            self.assert_converted(old, new, fields, [10])

    def test_cases(self):
        old = schema(a=union((1, NUMBER), (2, "a"), (3, TEXT), retired=(9,), is_open=True))
        new = schema(a=union((2, "a"), (3, ("text", 0, 9)), (4, NUMBER), retired=(1, 9), is_open=True))
        self.assert_converted(old, new, (0, None), [0])
        self.assert_converted(old, new, (1, 5), [0])
        self.assert_converted(old, new, (3, "abc"), [3, 3, 97, 98, 99])
        self.assert_converted(old, new, (2, (2, (1, 5))), [2, 2, 0])
        self.assert_converted(old, new, (2, (3, "abc")), [2, 3, 3, 97, 98, 99])

    def test_a_message_without_octets(self):
        self.assert_converted(schema(a=record()), schema(a=record()), (), [])
        nested = schema(a=record(needs("b", 1), needs("b", 2)), b=record())
        self.assert_converted(nested, nested, ((1, ()), (2, ())), [])
        self.assert_converted(
            nested, schema(a=record(needs("b", 1), may_have("b", 2)), b=record(may_have("a"))), ((1, ()), (2, ())),
            [0, 1, 0])
        pump = Pump(bridge_of(nested, nested))
        self.assertIs(pump.is_complete, True)
        self.assertEqual((pump.take([]), pump.finish()), ([], []))

    def test_bodies_that_keep_the_rules(self):
        random = Random(101)
        for old, new in KEPT_BODIES:
            for chain in CHAINS:
                before, after = placed(chain, old), placed(chain, new)
                for _ in range(3):
                    self.assert_converted(before, after, draw_value(random, before, before[0]))

    def test_an_ordinary_message(self):
        inner = ((1, 3), (2, "ab"), (4, (2, ((1, 4), (2, "cd"), (4, (4, -999)), (5, 0)))), (5, 99))
        value = (
            (1, 5), (2, "abcde"), (3, ((1, "xy"), (2, inner), (4, 70))), (4, (3, ((0, None),))), (5, 2),
            (6, (2, inner)))
        self.assert_converted(
            OLD, NEW, value, [1, 10, 1, 3, 1, 2, 120, 121, 0, 0, 0, 3, 120, 121, 122, 0])

    def test_schemas_as_messages(self):
        for found in (META, OLD, NEW, LISTS):
            self.assert_converted(META, META, schema_value(found))


class Faults(Checks):
    PLAIN = encode(OLD, ((1, 5), (2, "ab"), (4, (1, "abc")), (5, 1)))

    def test_the_octets_themselves(self):
        self.assertEqual(self.PLAIN, [10, 2, 97, 98, 0, 1, 3, 97, 98, 99, 1, 0])
        self.assertEqual(convert(bridge_of(OLD, NEW), self.PLAIN), [1, 10, 0, 1, 3, 120, 121, 122, 0])

    def test_form(self):
        self.assert_fault(OLD, NEW, [138, 0], (0, "form"))
        self.assert_fault(OLD, NEW, [128] * 8, (0, "form"))
        self.assert_fault(OLD, NEW, [128] * 7 + [0], (0, "form"))
        self.assert_fault(OLD, NEW, [10, 130, 0, 97, 98], (1, "form"))
        self.assert_fault(OLD, NEW, self.PLAIN[:10] + [128, 128, 0], (10, "form"))
        # Case 4 of field 4 is dropped, and so is field 4 itself.
        self.assert_fault(OLD, NEW, self.PLAIN[:5] + [4, 255, 128, 0], (6, "form"))
        self.assert_fault(OLD, NEW, self.PLAIN[:5] + [129, 0], (5, "form"))

    def test_range(self):
        for octets, at in (
                ([20], 0), ([1], 0), ([128, 1], 0), ([255] * 7 + [1], 0), ([10, 1], 1), ([10, 6], 1), ([10, 2, 31], 2),
                ([10, 2, 97, 37], 3), ([10, 2, 97, 127], 3), ([10, 2, 97, 98, 2], 4), ([10, 2, 97, 98, 255], 4),
                ([10, 2, 97, 98, 1, 4], 5), (self.PLAIN[:5] + [5], 5), (self.PLAIN[:5] + [128, 1], 5),
                (self.PLAIN[:6] + [6], 6), (self.PLAIN[:7] + [10], 7), (self.PLAIN[:5] + [4, 208, 15], 6),
                (self.PLAIN[:10] + [3], 10), (self.PLAIN[:11] + [3], 11)):
            self.assert_fault(OLD, NEW, octets, (at, "range"))

    def test_what_the_new_schema_allows_does_not_count(self):
        old = schema(
            a=record(needs(NUMBER, 1), needs(closed(1, 2), 2), may_have("b", 3)), b=("list", NUMBER, 1, 2))
        new = schema(
            a=record(needs(("number", -99, 99), 1), needs(opened((1, 2, 3)), 2), may_have("b", 3)),
            b=("list", NUMBER, 0, 9))
        for octets, at in (
                ([20, 1, 0], 0), ([1, 1, 0], 0), ([0, 3, 0], 1), ([0, 0, 0], 1), ([0, 1, 1, 0], 3),
                ([0, 1, 1, 3, 0, 0, 0], 3)):
            self.assert_fault(old, new, octets, (at, "range"))

    def test_end(self):
        for many in range(len(self.PLAIN)):
            self.assert_fault(OLD, NEW, self.PLAIN[:many], (many, "end"))
        self.assert_fault(OLD, NEW, [138], (1, "end"))
        self.assert_fault(OLD, NEW, [10, 130], (2, "end"))
        self.assert_fault(OLD, NEW, [128] * 7, (7, "end"))

    def test_rest(self):
        for more in ([0], [255], [10, 2, 97], self.PLAIN):
            self.assert_fault(OLD, NEW, self.PLAIN + more, (len(self.PLAIN), "rest"))
        self.assert_fault(schema(a=record()), schema(a=record()), [0], (0, "rest"))
        self.assert_fault(schema(a=record()), ONLY_NEW, [128], (0, "rest"))

    def test_any_octet_in_any_place(self):
        bridge = bridge_of(OLD, NEW)
        inner = ((1, 3), (2, "ab"), (4, (2, ((1, 4), (2, "cd"), (4, (4, -999)), (5, 0)))), (5, 99))
        octets = encode(OLD, ((1, 5), (2, "ab"), (3, ((1, "xy"), (2, inner))), (4, (0, None)), (5, 2), (6, (2, inner))))
        for place in range(len(octets)):
            for octet in (0, 1, 2, 3, 4, 5, 9, 31, 32, 37, 97, 127, 128, 129, 200, 255):
                changed = octets[:place] + [octet] + octets[place + 1:]
                self.assertEqual(fault(convert, bridge, changed), fault(decode, OLD, changed))

    def test_depths(self):
        for found, deep in DEEP:
            bridge = bridge_of(found, found)
            octets = {levels: encode_deep(found, levels) for levels in (79, 80, 81, 82, 90)}
            for levels in (79, 80):
                self.assertEqual(octets[levels], encode(found, deep(levels)))
                self.assertEqual(convert(bridge, octets[levels]), octets[levels])
            for levels in (81, 82, 90):
                at, reason = fault(decode, found, octets[levels])
                self.assertEqual(reason, "depth")
                self.assert_fault(found, found, octets[levels], (at, "depth"))
                # No octet is needed for this fault.
                self.assert_fault(found, found, octets[levels][:at], (at, "depth"))
                self.assertEqual(fault(decode, found, octets[levels][:at - 1]), (at - 1, "end"))

    def test_depths_of_what_is_dropped(self):
        for found, _ in DEEP:
            old = schema(**dict(found[1]), z=record(may_have("a", 1), needs(NUMBER, 2)))
            new = schema(z=record(needs(NUMBER, 2), retired=(1,)))
            old, new = ("z", old[1]), ("z", new[1])
            octets = [1] + encode_deep(found, 79) + [10]
            self.assertEqual(convert(bridge_of(old, new), octets), [10])
            octets = [1] + encode_deep(found, 80) + [10]
            at, reason = fault(decode, old, octets)
            self.assertEqual(reason, "depth")
            self.assert_fault(old, new, octets, (at, "depth"))


def encode_deep(found, levels):
    """The octets that a value of one of the deep schemas would have, also if it is too deep for a message."""
    return [3 if found == UNIONS else 1] * (levels - 1) + [0]


class Pieces(Checks):
    VALUE = (
        (1, 5), (2, "abcde"), (3, ((1, "xy"), (4, 70), (3, ((0, None), (1, "abcd"))))), (4, (4, -700)), (5, 99),
        (6, (2, ((1, 0), (2, "ab"), (4, (0, None)), (5, 0)))))

    def setUp(self):
        self.bridge = bridge_of(OLD, NEW)
        self.octets = encode(OLD, self.VALUE)
        self.expected = encode(NEW, read(OLD, NEW, self.VALUE))

    def test_all_at_once(self):
        pump = Pump(self.bridge)
        self.assertIs(pump.is_complete, False)
        found = pump.take(self.octets)
        self.assertIs(pump.is_complete, True)
        self.assertEqual(found + pump.finish(), self.expected)
        self.assertIs(pump.is_complete, True)

    def test_pieces_of_each_size(self):
        for size in range(1, len(self.octets) + 1):
            for empty in (0, 1, 3):
                pump = Pump(self.bridge)
                found = []
                for place in range(0, len(self.octets), size):
                    for _ in range(empty):
                        found += pump.take([])
                    found += pump.take(self.octets[place:place + size])
                found += pump.take([])
                self.assertEqual(found + pump.finish(), self.expected)

    def test_two_pieces(self):
        for place in range(len(self.octets) + 1):
            pump = Pump(self.bridge)
            found = pump.take(self.octets[:place])
            self.assertIs(pump.is_complete, place == len(self.octets))
            found += pump.take(self.octets[place:])
            self.assertIs(pump.is_complete, True)
            self.assertEqual(found + pump.finish(), self.expected)

    def test_no_octet(self):
        pump = Pump(self.bridge)
        self.assertIsNone(fault(pump.take, []))
        self.assertIs(pump.is_complete, False)
        self.assertEqual(fault(pump.finish), (0, "end"))
        self.assertEqual(fault(pump.take, self.octets), (0, "end"))

    def test_octets_behind_a_fault_do_not_count(self):
        pump = Pump(self.bridge)
        self.assertEqual(fault(pump.take, [10, 1, 138, 0]), (1, "range"))
        self.assertEqual(fault(pump.take, [2]), (1, "range"))
        self.assertEqual(fault(pump.finish), (1, "range"))

    def test_two_pumps_of_one_bridge(self):
        first, second, third = Pump(self.bridge), Pump(self.bridge), Pump(self.bridge)
        found = [[], []]
        for place, octet in enumerate(self.octets):
            found[0] += first.take([octet])
            if place % 2:
                found[1] += second.take(self.octets[place - 1:place + 1])
            self.assertEqual(fault(third.take, [255] * 8), (0, "form"))
        found[1] += second.take(self.octets[len(self.octets) // 2 * 2:])
        self.assertEqual(found[0] + first.finish(), self.expected)
        self.assertEqual(found[1] + second.finish(), self.expected)
        self.assertEqual(convert(self.bridge, self.octets), self.expected)
        self.assertEqual(len(self.bridge), 3)

    def test_random_messages_in_random_pieces(self):
        random = Random(103)
        for _ in range(200):
            old = draw_schema(random)
            new = draw_next(random, draw_next(random, old))
            bridge = bridge_of(old, new)
            value = draw_value(random, old, old[0])
            self.assert_converted(old, new, value)
            octets = encode(old, value)
            pump = Pump(bridge)
            found = []
            at = 0
            while at < len(octets):
                behind = at + random.randint(0, 5)
                found += pump.take(octets[at:behind])
                at = behind
            self.assertEqual(found + pump.finish(), encode(new, read(old, new, value)))
            for _ in range(5):
                changed = list(octets)
                more = [random.choice((0, 1, 2, 97, 128, 255))] * random.randint(0, 2)
                changed[random.randint(0, len(octets)):] = more
                expected = fault(decode, old, changed)
                if expected is None:
                    self.assertEqual(convert(bridge, changed), encode(new, read(old, new, decode(old, changed))))
                else:
                    self.assert_fault(old, new, changed, expected)

    def test_many_octets(self):
        found = schema(a=("list", "b", 0, 99), b=("list", "c", 0, 99), c=("list", NUMBER, 0, 99))
        new = schema(a=("list", "b", 0, 99), b=("list", "c", 0, 99), c=("list", ("number", -5, 9), 0, 99))
        octets = [10] + ([99] + ([99] + [18] * 99) * 99) * 10
        self.assertGreater(len(octets), 99000)
        self.assertEqual(convert(bridge_of(found, new), octets), octets)


class Arguments(unittest.TestCase):
    def test_octets_stay_as_they_were_and_may_be_changed_afterwards(self):
        octets = [2, 130, 1, 4]
        wide = schema(a=("list", ("number", -99, 99), 0, 9))
        bridge = bridge_of(wide, wide)
        pump = Pump(bridge)
        piece = octets[:2]
        first = pump.take(piece)
        self.assertEqual(piece, [2, 130])
        piece.clear()
        second = pump.take(octets[2:])
        kept = (list(first), list(second))
        self.assertEqual(first + second + pump.finish(), octets)
        self.assertEqual((first, second), kept)
        self.assertEqual(octets, [2, 130, 1, 4])

    def test_lists_that_are_returned_are_new_ones(self):
        found = schema(a=record(needs(CHOICE, 1), may_have(NUMBER, 2)))
        new = schema(a=record(needs(CHOICE, 1), may_have(NUMBER, 2), defaults(TEXT, "abc", 3)))
        bridge = bridge_of(found, new)
        for _ in range(3):
            converted = convert(bridge, [1, 0])
            self.assertEqual(converted, [1, 0, 3, 97, 98, 99])
            converted.append(7)
            converted[0] = 9
            pump = Pump(bridge)
            given = pump.take([1])
            given.append(5)
            more = pump.take([0])
            more += pump.finish()
            self.assertEqual(given[:-1] + more, [1, 0, 3, 97, 98, 99])
            more.clear()


class Interface(unittest.TestCase):
    def test_where_all_is_defined(self):
        self.assertEqual((convert.__module__, Pump.__module__), ("schemabridge.pump", "schemabridge.pump"))
        for name in ("__init__", "take", "finish", "is_complete"):
            self.assertIn(name, vars(Pump))

    def test_parameters_have_the_names_of_the_document(self):
        bridge = bridge_of(LISTS, LISTS)
        self.assertEqual(convert(bridge=bridge, octets=[0]), [0])
        pump = Pump(bridge=bridge)
        self.assertEqual(pump.take(octets=[0]) + pump.finish(), [0])

    def test_errors(self):
        with self.assertRaises(BadOctets) as caught:
            convert(bridge_of(LISTS, LISTS), [])
        self.assertEqual((caught.exception.at, caught.exception.reason), (0, "end"))
        self.assertIsInstance(caught.exception, BridgeError)
        self.assertTrue(is_message(LISTS, deep_lists(80)) and is_message(RECORDS, deep_records(80)))
        self.assertTrue(is_message(UNIONS, deep_unions(80)))


if __name__ == "__main__":
    unittest.main()
