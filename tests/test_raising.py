"""Each class of errors: calls that raise it, its attributes, and what else it is and is not."""

import unittest

from schemabridge import errors
from schemabridge.bridges import build
from schemabridge.codec import decode, encode
from schemabridge.deciding import counterexample_holds
from schemabridge.errors import BridgeError
from schemabridge.fleet import Fleet
from schemabridge.merging import merge
from schemabridge.meta import META, octets_schema, schema_octets, value_schema
from schemabridge.numbers import read_number
from schemabridge.pump import Pump, convert
from schemabridge.reading import read, read_part, read_route
from schemabridge.registry import Registry
from schemabridge.store import Store
from tests.building import LISTS, NUMBER, TEXT, may_have, needs, record, schema, union

FIRST = schema(a=record(needs(NUMBER)))
OTHER = schema(a=record(needs(TEXT)))
INVALID = schema(a=record(needs("a")))
SECOND = schema(a=record(may_have(NUMBER)))
NUMBERS = schema(a=("list", NUMBER, 0, 5))
TEXTS = schema(a=("list", TEXT, 0, 5))


def chain(number):
    """A schema of eight records, each one in a field of the one before it."""
    return schema(h=record(), **{
        name: record(may_have(follower, number)) for name, follower in zip("abcdefg", "bcdefgh")})


class Errors(unittest.TestCase):
    def setUp(self):
        self.registry = Registry()
        self.registry.start(FIRST)
        self.registry.admit(SECOND, parents=[0])
        self.registry.start(chain(1))
        self.registry.start(chain(2))
        self.registry.start(TEXTS)
        self.fleet = Fleet(self.registry)
        self.fleet.add_host(0)
        self.fleet.add_host(1)
        self.fleet.send(0, ((1, 5),))
        self.fleet.lose(self.fleet.send(0, ((1, 6),)))
        self.store = Store(self.registry)
        self.store.put(7, ((1, 5),), version=1)

    def assert_raises(self, name, call, *arguments, **keywords):
        with self.assertRaises(ValueError) as caught:
            call(*arguments, **keywords)
        error = caught.exception
        self.assertEqual(error.__class__.__name__, name)
        self.assertIsInstance(error, BridgeError)
        for other in (
                "InvalidSchema", "InvalidValue", "InvalidCertificate", "TooLarge", "UnknownVersion", "UnknownHost",
                "UnknownLetter", "UnknownSlot", "NoRoute", "PowerLost", "BadOctets", "Unreadable", "Clash", "Refused"):
            self.assertIs(isinstance(error, getattr(errors, other)), other == name)
        self.assertNotIsInstance(error, (KeyError, IndexError, TypeError))
        return error

    def test_invalid_schema(self):
        self.assert_raises("InvalidSchema", value_schema, 5)
        octets = schema_octets(FIRST)
        self.assert_raises("InvalidSchema", octets_schema, octets[:1] + [98] + octets[2:])
        self.assert_raises("InvalidSchema", self.registry.start, INVALID)
        self.assert_raises("InvalidSchema", self.registry.admit, INVALID, parents=[0])

    def test_invalid_value(self):
        self.assert_raises("InvalidValue", encode, FIRST, ())
        self.assert_raises("InvalidValue", read, FIRST, SECOND, ())
        self.assert_raises("InvalidValue", read_route, [FIRST, SECOND], ())
        self.assert_raises("InvalidValue", self.registry.read, 0, 1, ())
        self.assert_raises("InvalidValue", self.fleet.send, 0, ())
        self.assert_raises("InvalidValue", self.store.put, 7, (), version=0)

    def test_invalid_certificate(self):
        self.assert_raises("InvalidCertificate", build, FIRST, SECOND, ())
        self.assert_raises("InvalidCertificate", build, SECOND, FIRST, (("a", "a"),))

    def test_too_large(self):
        self.assert_raises("TooLarge", merge, chain(1), chain(2))
        self.assert_raises("TooLarge", self.registry.merge, 2, 3)

    def test_unknown_version(self):
        for call in (self.registry.schema, self.registry.parents, self.fleet.add_host):
            self.assert_raises("UnknownVersion", call, 5)
        for call in (
                self.registry.merge, self.registry.reaches, self.registry.certificate, self.registry.bridge,
                self.fleet.upgrade):
            self.assert_raises("UnknownVersion", call, 0, 5)
        self.assert_raises("UnknownVersion", self.registry.admit, SECOND, parents=[5])
        self.assert_raises("UnknownVersion", self.registry.read, 0, 5, ())
        self.assert_raises("UnknownVersion", self.store.put, 7, (), version=5)
        self.assert_raises("UnknownVersion", self.store.migrate, 7, version=5)
        self.assert_raises("UnknownVersion", self.store.compact, version=5)
        self.assert_raises("UnknownVersion", self.store.fetch, 7, version=5)

    def test_unknown_host(self):
        for call in (self.fleet.version, self.fleet.inbox, self.fleet.held):
            self.assert_raises("UnknownHost", call, 2)
        for call in (self.fleet.upgrade, self.fleet.send, self.fleet.relay, self.fleet.deliver):
            self.assert_raises("UnknownHost", call, 2, 9)

    def test_unknown_letter(self):
        for number in (1, 2, -1):
            self.assert_raises("UnknownLetter", self.fleet.letter, number)
            self.assert_raises("UnknownLetter", self.fleet.lose, number)
            self.assert_raises("UnknownLetter", self.fleet.relay, 0, number)
            self.assert_raises("UnknownLetter", self.fleet.deliver, 0, number)

    def test_unknown_slot(self):
        self.assert_raises("UnknownSlot", self.store.slot_version, 8)
        self.assert_raises("UnknownSlot", self.store.fetch, 8, version=0)
        self.assert_raises("UnknownSlot", self.store.migrate, 8, version=0)

    def test_no_route(self):
        self.assert_raises("NoRoute", self.registry.certificate, 1, 0)
        self.assert_raises("NoRoute", self.registry.bridge, 1, 0)
        self.assert_raises("NoRoute", self.registry.read, 1, 0, ())
        self.assert_raises("NoRoute", self.fleet.upgrade, 1, 0)
        self.assert_raises("NoRoute", self.store.migrate, 7, version=0)
        self.assert_raises("NoRoute", self.store.fetch, 7, version=0)

    def test_power_lost(self):
        self.store.limit(0)
        self.assert_raises("PowerLost", self.store.put, 7, ((1, 5),), version=1)
        self.assert_raises("PowerLost", self.store.slots)
        self.assert_raises("PowerLost", self.store.fetch, 8, version=5)

    def test_bad_octets(self):
        bridge = self.registry.bridge(0, 1)
        for octets, at, reason in (
                ([138, 0], 0, "form"), ([20], 0, "range"), ([], 0, "end"), ([10, 0], 1, "rest")):
            for call, arguments in ((decode, (FIRST, octets)), (convert, (bridge, octets))):
                error = self.assert_raises("BadOctets", call, *arguments)
                self.assertEqual((error.at, error.reason), (at, reason))
            pump = Pump(bridge)
            call, arguments = (pump.finish, ()) if reason == "end" else (pump.take, (octets,))
            error = self.assert_raises("BadOctets", call, *arguments)
            self.assertEqual((error.at, error.reason), (at, reason))
        for call, arguments in (
                (decode, (LISTS, [1] * 80)), (convert, (build(LISTS, LISTS, (("a", "a"),)), [1] * 80))):
            error = self.assert_raises("BadOctets", call, *arguments)
            self.assertEqual((error.at, error.reason), (80, "depth"))
        error = self.assert_raises("BadOctets", read_number, [5, 128], 1)
        self.assertEqual((error.at, error.reason), (2, "end"))
        error = self.assert_raises("BadOctets", octets_schema, schema_octets(META) + [0])
        self.assertEqual((error.at, error.reason), (len(schema_octets(META)), "rest"))

    def test_unreadable(self):
        for call, arguments, reason in (
                (read, (SECOND, FIRST, ()), "missing"), (read_part, (SECOND, FIRST, "a", "a", ()), "missing"),
                (read_route, ((FIRST, SECOND, OTHER), ((1, 5),)), "kind")):
            error = self.assert_raises("Unreadable", call, *arguments)
            self.assertEqual((error.path, error.reason), ((1,), reason))

    def test_clash(self):
        for first, second, depth in ((FIRST, LISTS, 0), (NUMBERS, TEXTS, 1), (schema(a=union(is_open=True)), TEXTS, 0)):
            self.assertEqual(self.assert_raises("Clash", merge, first, second).depth, depth)
        self.assertEqual(self.assert_raises("Clash", self.registry.merge, 0, 4).depth, 0)

    def test_refused(self):
        error = self.assert_raises("Refused", self.registry.admit, FIRST, parents=[0, 1])
        self.assertEqual(error.parent, 1)
        self.assertIs(counterexample_holds(SECOND, FIRST, error.counterexample), True)
        self.assertIs(error.counterexample.__class__, tuple)


if __name__ == "__main__":
    unittest.main()
