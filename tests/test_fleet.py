"""Fleet: points 1, 6, 31, 33 and 34."""

import copy
import unittest
from random import Random

from schemabridge.codec import encode
from schemabridge.errors import BridgeError, InvalidValue, NoRoute, UnknownHost, UnknownLetter, UnknownVersion
from schemabridge.fleet import Fleet
from schemabridge.reading import read
from tests.building import DEEP, NUMBER, TEXT, defaults, may_have, record, schema, tuples_only
from tests.sampling import draw_value
from tests.versions import BOTH, FIRST, branches, draw_registry, grow

UNKNOWN = (-1, -4, 4, 5, 99, 10 ** 20)


class Checks(unittest.TestCase):
    def setUp(self):
        """Versions 0 to 3 with two branches, and a host of each of them with the number of its version."""
        self.registry = branches()
        self.fleet = Fleet(self.registry)
        self.assertEqual([self.fleet.add_host(version) for version in range(4)], [0, 1, 2, 3])

    def letters(self):
        """The contents of all letters by their numbers, None for those that are lost."""
        found = []
        for number in range(40):
            try:
                found.append(self.fleet.letter(number))
            except UnknownLetter:
                found.append(None)
        return found

    def state(self, hosts=4):
        numbers = range(hosts)
        return (
            self.letters(), [self.fleet.version(host) for host in numbers],
            [self.fleet.inbox(host) for host in numbers], [self.fleet.held(host) for host in numbers])

    def assert_refused(self, error, call, *arguments):
        """Checks that a call raises just that error and changes nothing."""
        before = self.state()
        with self.assertRaises(BridgeError) as caught:
            call(*arguments)
        self.assertIs(caught.exception.__class__, error)
        self.assertEqual(self.state(), before)


class Hosts(Checks):
    def test_numbers_and_versions(self):
        self.assertEqual([self.fleet.version(host) for host in range(4)], [0, 1, 2, 3])
        self.assertEqual(self.fleet.add_host(2), 4)
        self.assertEqual(self.fleet.add_host(2), 5)
        self.assertEqual(self.fleet.version(5), 2)

    def test_a_new_host_has_nothing(self):
        for host in range(4):
            self.assertEqual((self.fleet.inbox(host), self.fleet.held(host)), ((), ()))

    def test_versions_that_do_not_exist(self):
        for version in UNKNOWN:
            self.assert_refused(UnknownVersion, self.fleet.add_host, version)
        self.assertEqual(self.fleet.add_host(0), 4)

    def test_hosts_that_do_not_exist(self):
        self.fleet.send(0, ((1, 5),))
        for host in UNKNOWN:
            for call in (self.fleet.version, self.fleet.inbox, self.fleet.held):
                self.assert_refused(UnknownHost, call, host)
            for call in (self.fleet.relay, self.fleet.deliver):
                self.assert_refused(UnknownHost, call, host, 0)
                self.assert_refused(UnknownHost, call, host, 99)
            for value in (((1, 5),), "no message"):
                self.assert_refused(UnknownHost, self.fleet.send, host, value)
            for version in (0, 3, 99, -1):
                self.assert_refused(UnknownHost, self.fleet.upgrade, host, version)


class Sending(Checks):
    def test_letters(self):
        self.assertEqual(self.fleet.send(0, ((1, 5),)), 0)
        self.assertEqual(self.fleet.send(3, ((1, 0), (3, 9))), 1)
        self.assertEqual(self.fleet.send(0, ((1, 6),)), 2)
        self.assertEqual(self.letters()[:4], [(0, 0, (10,)), (1, 3, (0, 0, 1, 18)), (2, 0, (12,)), None])
        self.assertIs(self.fleet.letter(0)[2].__class__, tuple)

    def test_values_that_are_no_messages_of_the_version(self):
        for host, value in (
                (0, ()), (0, ((1, 10),)), (0, ((1, 5), (2, "abc"))), (1, ((3, 5),)), (2, ()), (3, "ab"), (3, None),
                (0, 5), (0, (1, 5)), (1, ((2, "abc"), (1, 5)))):
            self.assert_refused(InvalidValue, self.fleet.send, host, value)
        self.assertEqual(self.fleet.send(0, ((1, 5),)), 0)

    def test_depths(self):
        for found, deep in DEEP:
            version = self.registry.start(found)
            host = self.fleet.add_host(version)
            number = self.fleet.send(host, deep(80))
            self.assertIs(self.fleet.deliver(host, number), True)
            self.assertEqual(self.fleet.inbox(host), ((number, version, deep(80)),))
            for levels in (81, 150):
                self.assert_refused(InvalidValue, self.fleet.send, host, deep(levels))

    def test_the_version_is_the_present_one(self):
        self.fleet.send(0, ((1, 5),))
        self.fleet.upgrade(0, 1)
        self.fleet.send(0, ())
        self.assertEqual(self.letters()[:2], [(0, 0, (10,)), (1, 1, (0, 0))])
        self.assert_refused(InvalidValue, self.fleet.send, 0, ((3, 5),))


class Delivering(Checks):
    def test_a_letter_of_the_same_version(self):
        number = self.fleet.send(1, ((2, "abc"),))
        self.assertIs(self.fleet.deliver(1, number), True)
        self.assertEqual(self.fleet.inbox(1), ((0, 1, ((2, "abc"),)),))
        self.assertEqual(self.fleet.held(1), ())

    def test_a_letter_of_an_earlier_version(self):
        number = self.fleet.send(0, ((1, 5),))
        for host, value in ((1, ((1, 5),)), (2, ((1, 5),)), (3, ((1, 5),))):
            self.assertIs(self.fleet.deliver(host, number), True)
            self.assertEqual(self.fleet.inbox(host), ((0, host, value),))
        number = self.fleet.send(1, ())
        self.assertIs(self.fleet.deliver(3, number), True)
        self.assertEqual(self.fleet.inbox(3), ((0, 3, ((1, 5),)), (1, 3, ((1, 7),))))

    def test_letters_that_are_held(self):
        number = self.fleet.send(3, ((1, 5), (2, "abc")))
        for host in (0, 1, 2):
            self.assertIs(self.fleet.deliver(host, number), False)
            self.assertEqual((self.fleet.inbox(host), self.fleet.held(host)), ((), (0,)))
        number = self.fleet.send(1, ((2, "abc"),))
        self.assertIs(self.fleet.deliver(2, number), False)
        self.assertEqual(self.fleet.held(2), (0, 1))

    def test_the_letter_stays(self):
        number = self.fleet.send(0, ((1, 5),))
        before = self.fleet.letter(number)
        self.fleet.deliver(1, number)
        self.assertEqual(self.fleet.letter(number), before)

    def test_a_letter_that_is_delivered_twice(self):
        number = self.fleet.send(0, ((1, 5),))
        for _ in range(2):
            self.assertIs(self.fleet.deliver(1, number), True)
        self.assertEqual(self.fleet.inbox(1), ((0, 1, ((1, 5),)),) * 2)
        number = self.fleet.send(3, ((1, 5),))
        for _ in range(3):
            self.assertIs(self.fleet.deliver(1, number), False)
        self.assertEqual(self.fleet.held(1), (1, 1, 1))
        self.assertEqual(self.fleet.upgrade(1, 3), 3)
        self.assertEqual(self.fleet.inbox(1), ((0, 1, ((1, 5),)),) * 2 + ((1, 3, ((1, 5),)),) * 3)

    def test_letters_that_do_not_exist(self):
        self.fleet.send(0, ((1, 5),))
        for number in (-1, 1, 2, 99):
            self.assert_refused(UnknownLetter, self.fleet.letter, number)
            self.assert_refused(UnknownLetter, self.fleet.lose, number)
            for host in range(4):
                self.assert_refused(UnknownLetter, self.fleet.deliver, host, number)
                self.assert_refused(UnknownLetter, self.fleet.relay, host, number)


class Losing(Checks):
    def test_a_letter_that_is_lost(self):
        for value in (((1, 5),), ((1, 6),)):
            self.fleet.send(0, value)
        self.assertIsNone(self.fleet.lose(0))
        for call in (self.fleet.letter, self.fleet.lose):
            self.assert_refused(UnknownLetter, call, 0)
        for call in (self.fleet.deliver, self.fleet.relay):
            self.assert_refused(UnknownLetter, call, 0, 0)
        self.assertEqual(self.fleet.letter(1), (1, 0, (12,)))

    def test_numbers_are_not_used_again(self):
        self.assertEqual(self.fleet.send(0, ((1, 5),)), 0)
        self.fleet.lose(0)
        self.assertEqual(self.fleet.send(0, ((1, 6),)), 1)
        self.fleet.lose(1)
        self.assertEqual(self.fleet.send(0, ((1, 7),)), 2)
        self.assertEqual(self.fleet.letter(2), (2, 0, (14,)))

    def test_what_was_read_or_held_stays(self):
        number = self.fleet.send(3, ((1, 5), (2, "abc")))
        self.fleet.deliver(0, number)
        self.fleet.deliver(3, number)
        self.fleet.lose(number)
        self.assertEqual((self.fleet.held(0), self.fleet.inbox(3)), ((0,), ((0, 3, ((1, 5), (2, "abc"))),)))
        self.assertEqual(self.fleet.upgrade(0, 3), 1)
        self.assertEqual(self.fleet.inbox(0), ((0, 3, ((1, 5), (2, "abc"))),))

    def test_a_relayed_letter_stays(self):
        number = self.fleet.relay(1, self.fleet.send(0, ((1, 5),)))
        self.fleet.lose(0)
        self.assertEqual(self.fleet.letter(number), (0, 1, (1, 10, 0)))
        self.assertIs(self.fleet.deliver(3, number), True)
        self.assertEqual(self.fleet.inbox(3), ((0, 3, ((1, 5),)),))


class Relaying(Checks):
    def test_a_version_that_is_reached(self):
        number = self.fleet.send(0, ((1, 5),))
        self.assertEqual(self.fleet.relay(1, number), 1)
        self.assertEqual(self.fleet.relay(3, 1), 2)
        self.assertEqual(self.fleet.relay(0, 0), 3)
        self.assertEqual(
            self.letters()[:5], [(0, 0, (10,)), (0, 1, (1, 10, 0)), (0, 3, (10, 0, 0)), (0, 0, (10,)), None])

    def test_a_version_that_is_not_reached(self):
        number = self.fleet.send(3, ((1, 5), (3, 4)))
        for host in (0, 1, 2):
            self.assertEqual(self.fleet.letter(self.fleet.relay(host, number)), (0, 3, (10, 0, 1, 8)))
        number = self.fleet.send(1, ((2, "ab"),))
        self.assertEqual(self.fleet.letter(self.fleet.relay(2, number)), (number, 1, (0, 1, 2, 97, 98)))

    def test_the_old_letter_stays_and_nobody_reads(self):
        number = self.fleet.send(0, ((1, 5),))
        before = self.state()
        self.fleet.relay(1, number)
        after = self.state()
        self.assertEqual(after[1:], before[1:])
        self.assertEqual(after[0][0], before[0][0])

    def test_defaults_of_the_way_stay(self):
        # Field 1 is left out at version 1, so version 3 has its default wherever it is read.
        number = self.fleet.send(1, ())
        relayed = self.fleet.relay(3, number)
        self.fleet.deliver(3, relayed)
        self.fleet.deliver(3, number)
        self.assertEqual(self.fleet.inbox(3), ((0, 3, ((1, 7),)),) * 2)


class Upgrading(Checks):
    def test_versions(self):
        self.assertEqual(self.fleet.upgrade(0, 0), 0)
        self.assertEqual(self.fleet.upgrade(0, 1), 0)
        self.assertEqual(self.fleet.version(0), 1)
        self.assertEqual(self.fleet.upgrade(0, 3), 0)
        self.assertEqual(self.fleet.version(0), 3)

    def test_what_can_be_read_now_is_read_in_order(self):
        values = {3: ((1, 1), (2, "abc")), 1: ((2, "de"),), 2: ((1, 2), (3, 3))}
        for version in (3, 1, 2, 1, 3):
            self.fleet.deliver(0, self.fleet.send(version, values[version]))
        self.assertEqual(self.fleet.held(0), (0, 1, 2, 3, 4))
        self.assertEqual(self.fleet.upgrade(0, 1), 2)
        self.assertEqual(self.fleet.inbox(0), ((1, 1, ((2, "de"),)), (3, 1, ((2, "de"),))))
        self.assertEqual(self.fleet.held(0), (0, 2, 4))
        self.assertEqual(self.fleet.upgrade(0, 1), 0)
        self.assertEqual(self.fleet.held(0), (0, 2, 4))
        self.assertEqual(self.fleet.upgrade(0, 3), 3)
        self.assertEqual(self.fleet.held(0), ())
        self.assertEqual(self.fleet.inbox(0), (
            (1, 1, ((2, "de"),)), (3, 1, ((2, "de"),)), (0, 3, values[3]), (2, 3, ((1, 2), (3, 3))), (4, 3, values[3])))

    def test_what_stays_held_keeps_its_order_ahead_of_later_letters(self):
        for version in (2, 3, 2, 1):
            self.fleet.deliver(0, self.fleet.send(version, ((1, version),)))
        self.assertEqual(self.fleet.upgrade(0, 1), 1)
        self.fleet.deliver(0, self.fleet.send(3, ((1, 9),)))
        self.assertEqual(self.fleet.held(0), (0, 1, 2, 4))
        self.assertEqual(self.fleet.upgrade(0, 3), 4)
        self.assertEqual([origin for origin, _, _ in self.fleet.inbox(0)], [3, 0, 1, 2, 4])

    def test_order_of_errors(self):
        for version in UNKNOWN:
            self.assert_refused(UnknownVersion, self.fleet.upgrade, 0, version)
        for host, version in ((1, 0), (1, 2), (2, 1), (3, 0), (3, 1), (3, 2)):
            self.assert_refused(NoRoute, self.fleet.upgrade, host, version)

    def test_other_hosts_stay_as_they_are(self):
        number = self.fleet.send(3, ((1, 5),))
        for host in (0, 1):
            self.fleet.deliver(host, number)
        self.fleet.upgrade(0, 3)
        self.assertEqual((self.fleet.version(1), self.fleet.held(1), self.fleet.inbox(1)), (1, (0,), ()))

    def test_versions_that_are_added_afterwards(self):
        self.registry.admit(schema(a=record(
            defaults(NUMBER, 7, 1), may_have(TEXT, 2), may_have(NUMBER, 3), defaults(TEXT, "new", 4))), parents=[3])
        number = self.fleet.send(0, ((1, 5),))
        host = self.fleet.add_host(4)
        self.assertIs(self.fleet.deliver(host, number), True)
        self.assertEqual(self.fleet.inbox(host), ((0, 4, ((1, 5), (4, "new"))),))
        number = self.fleet.send(host, ((1, 6), (4, "old")))
        self.assertIs(self.fleet.deliver(2, number), False)
        self.assertEqual(self.fleet.upgrade(2, 4), 1)
        self.assertEqual(self.fleet.inbox(2), ((number, 4, ((1, 6), (4, "old"))),))
        self.assertEqual(self.fleet.letter(self.fleet.relay(1, number)), (1, 4, (12, 0, 0, 3, 111, 108, 100)))

    def test_a_version_that_is_no_child_of_the_hosts_one(self):
        self.registry.start(BOTH)
        self.assert_refused(NoRoute, self.fleet.upgrade, 0, 4)
        number = self.fleet.send(self.fleet.add_host(4), ((1, 5),))
        self.assertIs(self.fleet.deliver(3, number), False)


class Entries(unittest.TestCase):
    """Point 34: whatever happens on the way, an entry is the message as it was sent, read to the entry's version."""

    def setUp(self):
        self.random = Random(113)

    def step(self, registry, fleet, hosts, sent):
        """Does something at random; `sent` has the version and the message of each letter that was sent."""
        host = self.random.randrange(hosts)
        word = self.random.choice(
            ("send", "send", "relay", "relay", "deliver", "deliver", "deliver", "upgrade", "lose"))
        many = self.letters
        if word == "send":
            version = fleet.version(host)
            found = registry.schema(version)
            value = draw_value(self.random, found, found[0])
            sent[fleet.send(host, value)] = (version, value)
            self.letters += 1
        elif word == "upgrade":
            version = self.random.randrange(len(registry))
            try:
                before = len(fleet.held(host))
                self.assertEqual(fleet.upgrade(host, version), before - len(fleet.held(host)))
            except NoRoute:
                self.assertIs(registry.reaches(fleet.version(host), version), False)
        elif many:
            self.pass_on(fleet, host, word, self.random.randrange(many))

    def pass_on(self, fleet, host, word, number):
        try:
            if word == "relay":
                self.assertEqual(fleet.relay(host, number), self.letters)
                self.letters += 1
            elif word == "deliver":
                fleet.deliver(host, number)
            elif self.random.random() < 0.3:
                fleet.lose(number)
        except UnknownLetter:
            pass

    def check(self, registry, fleet, hosts, sent, seen):
        for host in range(hosts):
            inbox = fleet.inbox(host)
            self.assertEqual(inbox[:len(seen[host])], seen[host])
            seen[host] = inbox
            for origin, version, value in inbox:
                first, message = sent[origin]
                self.assertIs(registry.reaches(first, version), True)
                self.assertEqual(value, read(registry.schema(first), registry.schema(version), message))
                self.assertIs(tuples_only(value), True)

    def test_whatever_happens_on_the_way(self):
        entries = 0
        for _ in range(25):
            registry = draw_registry(self.random, 3)
            fleet = Fleet(registry)
            hosts = 5
            for _ in range(hosts):
                fleet.add_host(self.random.randrange(len(registry)))
            self.letters = 0
            sent = {}
            seen = [()] * hosts
            for turn in range(60):
                self.step(registry, fleet, hosts, sent)
                if turn % 20 == 19:
                    grow(self.random, registry)
                    self.check(registry, fleet, hosts, sent, seen)
            entries += sum(len(inbox) for inbox in seen)
        self.assertGreater(entries, 200)


class Arguments(Checks):
    def test_what_is_returned_belongs_to_the_caller(self):
        value = ((1, 5),)
        kept = copy.deepcopy(value)
        number = self.fleet.send(0, value)
        self.fleet.deliver(3, number)
        inbox, held, letter = self.fleet.inbox(3), self.fleet.held(3), self.fleet.letter(number)
        self.fleet.deliver(3, number)
        self.fleet.deliver(0, self.fleet.send(3, ((1, 4),)))
        self.assertEqual((value, inbox, held, letter), (kept, ((0, 3, ((1, 5),)),), (), (0, 0, (10,))))
        for found in (inbox, held, letter, letter[2]):
            self.assertIs(found.__class__, tuple)

    def test_two_fleets_share_nothing_but_the_registry(self):
        other = Fleet(self.registry)
        with self.assertRaises(UnknownHost):
            other.version(0)
        self.assertEqual(other.add_host(3), 0)
        self.fleet.send(0, ((1, 5),))
        with self.assertRaises(UnknownLetter):
            other.letter(0)
        self.assertEqual(other.send(0, ((1, 8),)), 0)
        other.deliver(0, 0)
        self.fleet.deliver(0, 0)
        self.assertEqual(other.inbox(0), ((0, 3, ((1, 8),)),))
        self.assertEqual(self.fleet.inbox(0), ((0, 0, ((1, 5),)),))
        other.lose(0)
        self.assertEqual(self.fleet.letter(0), (0, 0, tuple(encode(FIRST, ((1, 5),)))))


class Interface(Checks):
    def test_each_method_is_defined_in_the_class(self):
        self.assertEqual(Fleet.__module__, "schemabridge.fleet")
        for name in (
                "__init__", "add_host", "upgrade", "send", "relay", "lose", "deliver", "version", "inbox", "held",
                "letter"):
            self.assertIn(name, vars(Fleet))

    def test_parameters_have_the_names_of_the_document(self):
        fleet = Fleet(registry=self.registry)
        self.assertEqual(fleet.add_host(version=0), 0)
        self.assertEqual(fleet.send(host=0, value=((1, 5),)), 0)
        self.assertEqual(fleet.relay(host=0, letter=0), 1)
        self.assertIs(fleet.deliver(host=0, letter=1), True)
        self.assertEqual(fleet.upgrade(host=0, version=1), 0)
        self.assertEqual(fleet.version(host=0), 1)
        self.assertEqual(fleet.inbox(host=0), ((0, 0, ((1, 5),)),))
        self.assertEqual(fleet.held(host=0), ())
        self.assertEqual(fleet.letter(number=0), (0, 0, (10,)))
        self.assertIsNone(fleet.lose(letter=0))


if __name__ == "__main__":
    unittest.main()
