"""Registries, fleets and stores side by side: points 1, 18, 23, 31, 34 and 37."""

import unittest
from random import Random

from schemabridge.codec import decode, encode
from schemabridge.deciding import follows
from schemabridge.errors import NoRoute, PowerLost, UnknownSlot
from schemabridge.fleet import Fleet
from schemabridge.pump import convert
from schemabridge.reading import read, read_route
from schemabridge.store import Store
from tests.sampling import draw_value
from tests.versions import draw_registry, grow


def told(registry, fleets, stores):
    """All that can be asked of a registry, its fleets and its stores."""
    versions = [(registry.schema(version), registry.parents(version)) for version in range(len(registry))]
    hosts = [[(fleet.version(host), fleet.inbox(host), fleet.held(host)) for host in range(3)] for fleet in fleets]
    octets = [(store.head(), store.log(0), store.log(1), store.slots()) for store in stores]
    return versions, hosts, octets


class SideBySide(unittest.TestCase):
    def setUp(self):
        """Two registries, and three fleets and three stores: two of each of the first registry, one of the second."""
        self.random = Random(131)
        self.registries = [draw_registry(self.random, 4), draw_registry(self.random, 4)]
        self.fleets = [Fleet(self.registries[place]) for place in (0, 0, 1)]
        self.stores = [Store(self.registries[place]) for place in (0, 0, 1)]
        for fleet, place in zip(self.fleets, (0, 0, 1)):
            for _ in range(3):
                fleet.add_host(self.random.randrange(len(self.registries[place])))
        self.sent = [{}, {}, {}]
        self.letters = [0, 0, 0]
        self.held = [{}, {}, {}]

    def message(self, found):
        return draw_value(self.random, found, found[0])

    def use_fleet(self, place, registry):
        fleet = self.fleets[place]
        host = self.random.randrange(3)
        word = self.random.choice(("send", "relay", "deliver", "deliver", "upgrade"))
        if word == "send" or self.letters[place] == 0:
            value = self.message(registry.schema(fleet.version(host)))
            number = fleet.send(host, value)
            self.assertEqual(number, self.letters[place])
            self.sent[place][number] = (fleet.version(host), value)
            self.letters[place] += 1
        elif word == "relay":
            self.assertEqual(fleet.relay(host, self.random.randrange(self.letters[place])), self.letters[place])
            self.letters[place] += 1
        elif word == "deliver":
            fleet.deliver(host, self.random.randrange(self.letters[place]))
        else:
            try:
                fleet.upgrade(host, self.random.randrange(len(registry)))
            except NoRoute:
                pass

    def use_store(self, place, registry):
        store = self.stores[place]
        slot, version = self.random.randrange(5), self.random.randrange(len(registry))
        word = self.random.choice(("put", "put", "migrate", "compact", "limit"))
        try:
            if word == "put":
                value = self.message(registry.schema(version))
                store.put(slot, value, version=version)
                self.held[place][slot] = (version, value)
            elif word == "migrate":
                store.migrate(slot, version=version)
            elif word == "compact":
                store.compact(version=version)
            else:
                store.limit(self.random.randrange(40))
        except PowerLost:
            self.assertEqual(store.reopen(), len(self.held[place]))
        except (NoRoute, UnknownSlot):
            pass

    def check_all(self):
        for place, which in enumerate((0, 0, 1)):
            registry = self.registries[which]
            for host in range(3):
                for origin, version, value in self.fleets[place].inbox(host):
                    first, message = self.sent[place][origin]
                    self.assertEqual(value, read(registry.schema(first), registry.schema(version), message))
            store = self.stores[place]
            self.assertEqual(store.slots(), tuple(sorted(self.held[place])))
            for slot in store.slots():
                first, message = self.held[place][slot]
                own = store.slot_version(slot)
                self.assertEqual(
                    store.fetch(slot, version=own), read(registry.schema(first), registry.schema(own), message))

    def test_what_is_done_to_one_changes_no_other(self):
        for turn in range(300):
            place = self.random.randrange(3)
            which = (0, 0, 1)[place]
            others = [other for other in range(3) if other != place]
            before = told(
                self.registries[1 - which], [self.fleets[other] for other in others],
                [self.stores[other] for other in others])
            if turn % 60 == 59:
                grow(self.random, self.registries[which])
            elif turn % 2:
                self.use_fleet(place, self.registries[which])
            else:
                self.use_store(place, self.registries[which])
            self.assertEqual(told(
                self.registries[1 - which], [self.fleets[other] for other in others],
                [self.stores[other] for other in others]), before)
            self.check_all()
        self.assertTrue(all(any(fleet.inbox(host) for host in range(3)) for fleet in self.fleets))
        self.assertTrue(all(store.slots() for store in self.stores))

    def test_any_route_gives_the_same(self):
        for registry in self.registries:
            many = len(registry)
            for old in range(many):
                message = self.message(registry.schema(old))
                octets = encode(registry.schema(old), message)
                for new in range(old, many):
                    if registry.reaches(old, new):
                        expected = registry.read(old, new, message)
                        self.assertIs(follows(registry.schema(old), registry.schema(new)), True)
                        self.assertEqual(
                            decode(registry.schema(new), convert(registry.bridge(old, new), octets)), expected)
                        for between in range(old, new + 1):
                            if registry.reaches(old, between) and registry.reaches(between, new):
                                route = [registry.schema(version) for version in (old, between, new)]
                                self.assertEqual(read_route(route, message), expected)
                                first = convert(registry.bridge(old, between), octets)
                                self.assertEqual(
                                    convert(registry.bridge(between, new), first),
                                    encode(registry.schema(new), expected))


if __name__ == "__main__":
    unittest.main()
