"""Store: points 1, 6, 31 and 35 to 37."""

import copy
import unittest
from random import Random

from schemabridge.codec import encode
from schemabridge.errors import BridgeError, InvalidValue, NoRoute, PowerLost, UnknownSlot, UnknownVersion
from schemabridge.numbers import write_number
from schemabridge.reading import read
from schemabridge.store import Store
from tests.building import DEEP, NUMBER, TEXT, defaults, may_have, numbers, record, schema, tuples_only
from tests.sampling import draw_value
from tests.versions import branches, draw_registry

UNKNOWN = (-1, 4, 5, 99, 10 ** 20)
NO_MESSAGES = ((), "ab", None, 5, ((1, 10),), ((9, 9),))


def entry(slot, version, octets):
    return write_number(slot) + write_number(version) + write_number(len(octets)) + octets


class Checks(unittest.TestCase):
    def setUp(self):
        self.registry = branches()
        self.store = Store(self.registry)

    def octets(self):
        return (self.store.head(), self.store.log(0), self.store.log(1))

    def assert_octets(self, head, first, second):
        self.assertEqual(self.octets(), (head, first, second))

    def assert_refused(self, error, call, *arguments, **keywords):
        """Checks that a call raises just that error and writes nothing."""
        before = self.octets()
        with self.assertRaises(BridgeError) as caught:
            call(*arguments, **keywords)
        self.assertIs(caught.exception.__class__, error)
        self.assertEqual(self.octets(), before)

    def assert_power_lost(self, call, *arguments, **keywords):
        """Checks that the power fails within a call and that it is off afterwards."""
        with self.assertRaises(BridgeError) as caught:
            call(*arguments, **keywords)
        self.assertIs(caught.exception.__class__, PowerLost)
        self.assert_power_is_off()

    def assert_power_is_off(self):
        for slot in (0, 7, 50):
            for version in (0, 3, 99):
                self.assert_refused(PowerLost, self.store.put, slot, ((1, 5),), version=version)
                self.assert_refused(PowerLost, self.store.put, slot, "no message", version=version)
                self.assert_refused(PowerLost, self.store.migrate, slot, version=version)
                self.assert_refused(PowerLost, self.store.fetch, slot, version=version)
                self.assert_refused(PowerLost, self.store.compact, version=version)
            self.assert_refused(PowerLost, self.store.slot_version, slot)
        self.assert_refused(PowerLost, self.store.slots)
        for octets in (0, 5, 100, None):
            self.assert_refused(PowerLost, self.store.limit, octets)


class Putting(Checks):
    def test_an_empty_store(self):
        self.assert_octets(0, [], [])
        self.assertEqual(self.store.slots(), ())
        self.assertEqual(self.store.reopen(), 0)

    def test_entries(self):
        self.assertIsNone(self.store.put(7, ((1, 5),), version=0))
        self.assert_octets(0, [7, 0, 1, 10], [])
        self.assertIsNone(self.store.put(3, ((2, "abc"),), version=1))
        self.assert_octets(0, [7, 0, 1, 10, 3, 1, 6, 0, 1, 3, 97, 98, 99], [])
        self.store.put(7, ((1, 6),), version=0)
        self.assert_octets(0, [7, 0, 1, 10, 3, 1, 6, 0, 1, 3, 97, 98, 99, 7, 0, 1, 12], [])
        self.assertEqual(self.store.slots(), (3, 7))

    def test_the_last_entry_of_a_slot_counts(self):
        for slot, version, value in ((0, 0, ((1, 5),)), (0, 3, ((1, 6), (3, 1))), (99, 2, ((1, 1),)), (0, 1, ())):
            self.store.put(slot, value, version=version)
            self.assertEqual(self.store.slot_version(slot), version)
            self.assertEqual(self.store.fetch(slot, version=version), value)
        self.assertEqual(self.store.slots(), (0, 99))

    def test_each_slot(self):
        for slot in range(99, -1, -1):
            self.store.put(slot, ((1, slot % 10),), version=0)
        self.assertEqual(self.store.slots(), tuple(range(100)))
        for slot in range(100):
            self.assertEqual(self.store.fetch(slot, version=3), ((1, slot % 10),))
        self.assertEqual(self.store.log(0), [
            octet for slot in range(99, -1, -1) for octet in (slot, 0, 1, 2 * (slot % 10))])

    def test_many_octets_and_versions(self):
        long = self.registry.start(schema(a=numbers(0)))
        self.store.put(5, (9,) * 99, version=long)
        empty = self.registry.start(schema(a=record()))
        self.store.put(6, (), version=empty)
        wide = self.registry.start(schema(a=("list", TEXT, 0, 99)))
        self.store.put(5, ("abcde",) * 50, version=wide)
        text = [5, 97, 98, 99, 100, 101]
        self.assert_octets(
            0, [5, 4, 100, 99] + [18] * 99 + [6, 5, 0] + [5, 6, 173, 2, 50] + text * 50, [])
        self.assertEqual(self.store.fetch(6, version=empty), ())
        self.assertEqual(self.store.fetch(5, version=wide), ("abcde",) * 50)
        self.assertEqual(self.store.reopen(), 2)
        self.assertEqual(self.store.fetch(5, version=wide), ("abcde",) * 50)

    def test_errors(self):
        self.store.put(7, ((1, 5),), version=0)
        for version in UNKNOWN:
            for value in (((1, 5),), "no message"):
                self.assert_refused(UnknownVersion, self.store.put, 7, value, version=version)
        for value in NO_MESSAGES:
            self.assert_refused(InvalidValue, self.store.put, 7, value, version=0)
            self.assert_refused(InvalidValue, self.store.put, 8, value, version=0)
        self.assertEqual((self.store.slots(), self.store.fetch(7, version=0)), ((7,), ((1, 5),)))

    def test_depths(self):
        for found, deep in DEEP:
            version = self.registry.start(found)
            self.store.put(9, deep(80), version=version)
            self.assertEqual(self.store.fetch(9, version=version), deep(80))
            for levels in (81, 150):
                self.assert_refused(InvalidValue, self.store.put, 9, deep(levels), version=version)


class Fetching(Checks):
    def test_versions_that_are_reached(self):
        self.store.put(7, ((1, 5),), version=0)
        for version in range(4):
            self.assertEqual(self.store.fetch(7, version=version), ((1, 5),))
        self.store.put(7, ((2, "abc"),), version=1)
        self.assertEqual(self.store.fetch(7, version=1), ((2, "abc"),))
        self.assertEqual(self.store.fetch(7, version=3), ((1, 7), (2, "abc")))
        self.assertEqual(self.octets()[0], 0)

    def test_nothing_is_written(self):
        self.store.put(7, ((1, 5),), version=0)
        before = self.octets()
        self.store.limit(0)
        for version in range(4):
            self.store.fetch(7, version=version)
        self.assertEqual((self.store.slots(), self.store.slot_version(7)), ((7,), 0))
        self.assertEqual(self.octets(), before)

    def test_errors(self):
        self.store.put(7, ((1, 5),), version=1)
        for slot in (0, 6, 8, 99):
            for version in (0, 3, 99, -1):
                self.assert_refused(UnknownSlot, self.store.fetch, slot, version=version)
                self.assert_refused(UnknownSlot, self.store.migrate, slot, version=version)
            self.assert_refused(UnknownSlot, self.store.slot_version, slot)
        for version in UNKNOWN:
            self.assert_refused(UnknownVersion, self.store.fetch, 7, version=version)
            self.assert_refused(UnknownVersion, self.store.migrate, 7, version=version)
        for version in (0, 2):
            self.assert_refused(NoRoute, self.store.fetch, 7, version=version)
            self.assert_refused(NoRoute, self.store.migrate, 7, version=version)
        self.assertEqual(self.store.slot_version(7), 1)


class Migrating(Checks):
    def test_entries(self):
        self.store.put(7, ((1, 5),), version=0)
        self.assertIs(self.store.migrate(7, version=1), True)
        self.assert_octets(0, [7, 0, 1, 10, 7, 1, 3, 1, 10, 0], [])
        self.assertIs(self.store.migrate(7, version=3), True)
        self.assert_octets(0, [7, 0, 1, 10, 7, 1, 3, 1, 10, 0, 7, 3, 3, 10, 0, 0], [])
        self.assertEqual((self.store.slots(), self.store.slot_version(7)), ((7,), 3))
        self.assertEqual(self.store.fetch(7, version=3), ((1, 5),))

    def test_the_same_version(self):
        self.store.put(7, ((1, 5),), version=0)
        before = self.octets()
        self.store.limit(0)
        self.assertIs(self.store.migrate(7, version=0), False)
        self.assertEqual(self.octets(), before)
        self.store.limit(None)
        self.store.migrate(7, version=2)
        before = self.octets()
        self.assertIs(self.store.migrate(7, version=2), False)
        self.assertEqual(self.octets(), before)

    def test_other_slots_stay(self):
        self.store.put(7, ((1, 5),), version=0)
        self.store.put(8, ((1, 6),), version=0)
        self.store.migrate(7, version=3)
        self.assertEqual((self.store.slot_version(7), self.store.slot_version(8)), (3, 0))

    def test_versions_that_are_added_afterwards(self):
        self.store.put(7, ((2, "abc"),), version=1)
        self.assert_refused(UnknownVersion, self.store.migrate, 7, version=4)
        self.registry.admit(schema(a=record(may_have(TEXT, 2), defaults(NUMBER, 4, 5), retired=(1,))), parents=[1])
        self.assertIs(self.store.migrate(7, version=4), True)
        self.assertEqual(self.store.fetch(7, version=4), ((2, "abc"), (5, 4)))
        self.assert_refused(NoRoute, self.store.fetch, 7, version=3)


class Compacting(Checks):
    def fill(self):
        self.store.put(9, ((1, 1),), version=0)
        self.store.put(3, ((2, "ab"),), version=1)
        self.store.put(9, ((1, 5),), version=0)
        self.store.put(5, ((1, 2), (3, 3)), version=2)
        self.live = self.store.log(0)

    def test_an_empty_store(self):
        self.assertEqual(self.store.compact(version=0), 0)
        self.assert_octets(1, [], [])
        self.assertEqual(self.store.compact(version=3), 0)
        self.assert_octets(0, [], [])

    def test_a_version_that_all_slots_reach(self):
        self.fill()
        self.assertEqual(self.store.compact(version=3), 3)
        self.assert_octets(1, self.live, [3, 3, 6, 14, 1, 2, 97, 98, 0, 5, 3, 4, 4, 0, 1, 6, 9, 3, 3, 10, 0, 0])
        self.assertEqual([self.store.slot_version(slot) for slot in self.store.slots()], [3, 3, 3])
        self.assertEqual(self.store.fetch(9, version=3), ((1, 5),))

    def test_slots_whose_version_does_not_reach_it(self):
        self.fill()
        self.assertEqual(self.store.compact(version=1), 3)
        self.assert_octets(1, self.live, [3, 1, 5, 0, 1, 2, 97, 98, 5, 2, 3, 4, 1, 6, 9, 1, 3, 1, 10, 0])
        self.assertEqual([self.store.slot_version(slot) for slot in (3, 5, 9)], [1, 2, 1])
        self.assertEqual(self.store.compact(version=0), 3)
        self.assertEqual(self.store.log(0), self.store.log(1))
        self.assertEqual(self.store.head(), 0)

    def test_later_entries_go_to_the_new_area(self):
        self.fill()
        self.store.compact(version=3)
        compacted = self.store.log(1)
        self.store.put(9, ((1, 6),), version=0)
        self.store.migrate(9, version=2)
        self.assert_octets(1, self.live, compacted + [9, 0, 1, 12, 9, 2, 2, 12, 0])
        self.assertEqual(self.store.compact(version=3), 3)
        self.assertEqual(self.store.head(), 0)
        self.assertEqual(self.store.log(0)[-6:], [9, 3, 3, 12, 0, 0])
        self.assertEqual(self.store.log(1), compacted + [9, 0, 1, 12, 9, 2, 2, 12, 0])

    def test_unknown_versions(self):
        for version in UNKNOWN:
            self.assert_refused(UnknownVersion, self.store.compact, version=version)
        self.fill()
        for _ in range(3):
            for version in UNKNOWN:
                self.assert_refused(UnknownVersion, self.store.compact, version=version)
            self.assertEqual(self.store.slots(), (3, 5, 9))
            self.store.compact(version=3)


class Limits(Checks):
    ENTRY = [7, 1, 5, 0, 1, 2, 97, 98]

    def test_a_put_that_is_cut(self):
        for limit in range(len(self.ENTRY)):
            self.store = Store(self.registry)
            self.store.put(7, ((1, 5),), version=0)
            self.store.limit(limit)
            self.assert_power_lost(self.store.put, 7, ((2, "ab"),), version=1)
            self.assert_octets(0, [7, 0, 1, 10] + self.ENTRY[:limit], [])
            self.assertEqual(self.store.reopen(), 1)
            self.assert_octets(0, [7, 0, 1, 10], [])
            self.assertEqual((self.store.slot_version(7), self.store.fetch(7, version=3)), (0, ((1, 5),)))
            self.store.put(7, ((2, "ab"),), version=1)
            self.assert_octets(0, [7, 0, 1, 10] + self.ENTRY, [])

    def test_the_first_put_that_is_cut(self):
        for limit in range(len(self.ENTRY)):
            self.store = Store(self.registry)
            self.store.limit(limit)
            self.assert_power_lost(self.store.put, 7, ((2, "ab"),), version=1)
            self.assert_octets(0, self.ENTRY[:limit], [])
            self.assertEqual(self.store.reopen(), 0)
            self.assert_octets(0, [], [])
            self.assertEqual(self.store.slots(), ())
            self.assert_refused(UnknownSlot, self.store.fetch, 7, version=1)

    def test_exactly_as_many_octets_as_the_entry_has(self):
        for more in (0, 1):
            self.store = Store(self.registry)
            self.store.limit(len(self.ENTRY) + more)
            self.store.put(7, ((2, "ab"),), version=1)
            self.assertEqual(self.store.fetch(7, version=1), ((2, "ab"),))
            self.assertEqual(self.store.slots(), (7,))
            self.assert_power_lost(self.store.put, 8, ((1, 5),), version=0)
            self.assert_octets(0, self.ENTRY + [8][:more], [])
            self.assertEqual(self.store.reopen(), 1)
            self.assert_octets(0, self.ENTRY, [])

    def test_a_limit_over_several_entries(self):
        self.store.limit(13)
        for slot in (1, 2, 3):
            self.store.put(slot, ((1, slot),), version=0)
        self.assert_power_lost(self.store.put, 4, ((1, 4),), version=0)
        self.assertEqual(self.store.log(0), [1, 0, 1, 2, 2, 0, 1, 4, 3, 0, 1, 6, 4])
        self.assertEqual(self.store.reopen(), 3)

    def test_a_migration_that_is_cut(self):
        moved = [7, 3, 3, 10, 0, 0]
        for limit in range(len(moved) + 1):
            self.store = Store(self.registry)
            self.store.put(7, ((1, 5),), version=0)
            self.store.limit(limit)
            if limit < len(moved):
                self.assert_power_lost(self.store.migrate, 7, version=3)
            else:
                self.assertIs(self.store.migrate(7, version=3), True)
            self.assert_octets(0, [7, 0, 1, 10] + moved[:limit], [])
            self.assertEqual(self.store.reopen(), 1)
            self.assertEqual(self.store.slot_version(7), 3 if limit == len(moved) else 0)
            self.assertEqual(self.store.fetch(7, version=3), ((1, 5),))

    def assert_compaction(self, limit, old, slots):
        """Checks a compaction under a limit; `old` is what the live area begins with, and what the other one holds."""
        live = old + [7, 0, 1, 10, 3, 1, 5, 0, 1, 2, 97, 98]
        compacted = [3, 3, 6, 14, 1, 2, 97, 98, 0, 7, 3, 3, 10, 0, 0] + ([9, 3, 3, 2, 0, 0] if old else [])
        self.store.put(7, ((1, 5),), version=0)
        self.store.put(3, ((2, "ab"),), version=1)
        self.assert_octets(0, live, old)
        self.store.limit(limit)
        if limit <= len(compacted):
            # The head octet is the last one that is written.
            self.assert_power_lost(self.store.compact, version=3)
            self.assert_octets(0, live, compacted[:limit])
        else:
            self.assertEqual(self.store.compact(version=3), len(slots))
            self.assert_octets(1, live, compacted)
            self.assert_power_lost(self.store.put, 0, ((1, 5),), version=0)
        before = self.octets()
        self.assertEqual(self.store.reopen(), len(slots))
        self.assertEqual(self.octets(), before)
        self.assertEqual(self.store.slots(), slots)
        self.assertEqual(self.store.slot_version(7), 0 if limit <= len(compacted) else 3)
        self.assertEqual(self.store.fetch(7, version=3), ((1, 5),))
        self.assertEqual(self.store.fetch(3, version=3), ((1, 7), (2, "ab")))

    def test_a_compaction_that_is_cut(self):
        for limit in range(17):
            self.store = Store(self.registry)
            self.assert_compaction(limit, [], (3, 7))

    def test_a_compaction_that_is_cut_while_the_other_area_holds_octets(self):
        for limit in range(23):
            self.store = Store(self.registry)
            self.store.put(9, ((1, 1),), version=0)
            self.store.compact(version=0)
            self.store.compact(version=0)
            self.assert_compaction(limit, [9, 0, 1, 2], (3, 7, 9))

    def test_a_compaction_after_one_that_was_cut(self):
        self.store.put(7, ((1, 5),), version=0)
        self.store.limit(3)
        self.assert_power_lost(self.store.compact, version=3)
        self.assert_octets(0, [7, 0, 1, 10], [7, 3, 3])
        self.store.reopen()
        self.store.put(7, ((1, 6),), version=0)
        self.assertEqual(self.store.compact(version=2), 1)
        self.assert_octets(1, [7, 0, 1, 10, 7, 0, 1, 12], [7, 2, 2, 12, 0])

    def test_a_compaction_of_an_empty_store_writes_the_head_octet(self):
        self.store.limit(0)
        self.assert_power_lost(self.store.compact, version=0)
        self.assert_octets(0, [], [])
        self.store.reopen()
        self.store.limit(1)
        self.assertEqual(self.store.compact(version=0), 0)
        self.assertEqual(self.store.head(), 1)
        self.assert_power_lost(self.store.compact, version=0)
        self.assertEqual(self.store.head(), 1)

    def test_a_limit_that_is_set_anew(self):
        self.store.limit(2)
        self.store.limit(4)
        self.store.put(1, ((1, 5),), version=0)
        self.store.limit(4)
        self.store.put(2, ((1, 5),), version=0)
        self.store.limit(10)
        self.store.limit(3)
        self.assert_power_lost(self.store.put, 3, ((1, 5),), version=0)
        self.assertEqual(self.store.log(0), [1, 0, 1, 10, 2, 0, 1, 10, 3, 0, 1])

    def test_a_limit_that_is_removed(self):
        self.assertIsNone(self.store.limit(2))
        self.assertIsNone(self.store.limit(None))
        self.store.put(1, ((1, 5),), version=0)
        self.store.limit(0)
        self.assertEqual(self.store.reopen(), 1)
        self.store.put(2, ((1, 5),), version=0)
        self.assertEqual(self.store.slots(), (1, 2))

    def test_errors_use_nothing_of_the_limit(self):
        self.store.put(1, ((1, 5),), version=1)
        self.store.limit(4)
        for _ in range(3):
            self.assert_refused(UnknownSlot, self.store.migrate, 2, version=1)
            self.assert_refused(NoRoute, self.store.migrate, 1, version=0)
            self.assert_refused(UnknownVersion, self.store.put, 2, ((1, 5),), version=9)
            self.assert_refused(UnknownVersion, self.store.compact, version=9)
            self.assert_refused(InvalidValue, self.store.put, 2, (), version=0)
        self.store.put(2, ((1, 5),), version=0)
        self.assertEqual(self.store.slots(), (1, 2))

    def test_other_errors_come_ahead_of_a_failing_power(self):
        self.store.put(1, ((1, 5),), version=1)
        self.store.limit(0)
        for version in UNKNOWN:
            self.assert_refused(UnknownVersion, self.store.put, 1, "no message", version=version)
            self.assert_refused(UnknownVersion, self.store.migrate, 1, version=version)
            self.assert_refused(UnknownVersion, self.store.compact, version=version)
        self.assert_refused(InvalidValue, self.store.put, 1, "no message", version=1)
        self.assert_refused(NoRoute, self.store.migrate, 1, version=2)
        self.assert_refused(UnknownSlot, self.store.migrate, 2, version=3)
        self.assert_refused(PowerLost, self.store.migrate, 1, version=3)
        self.assert_power_is_off()

    def test_reopening_again(self):
        self.store.put(7, ((1, 5),), version=0)
        self.store.limit(2)
        self.assert_power_lost(self.store.put, 8, ((1, 5),), version=0)
        for _ in range(3):
            self.assertEqual(self.store.reopen(), 1)
            self.assert_octets(0, [7, 0, 1, 10], [])


class Holding(unittest.TestCase):
    """Point 37, and the octets of point 35, for calls at random."""

    def setUp(self):
        self.random = Random(127)

    def step(self, registry, store, held):
        """Does something at random; `held` has the version and the message of what was put into each slot."""
        word = self.random.choice(("put", "put", "put", "migrate", "migrate", "compact", "limit", "reopen"))
        version = self.random.randrange(len(registry))
        slot = self.random.randrange(6)
        if word == "put":
            found = registry.schema(version)
            value = draw_value(self.random, found, found[0])
            store.put(slot, value, version=version)
            held[slot] = (version, value)
        elif word == "migrate":
            before = len(store.log(store.head()))
            if store.migrate(slot, version=version):
                octets = encode(registry.schema(version), self.expected(registry, held[slot], version))
                self.assertEqual(store.log(store.head())[before:], entry(slot, version, octets))
        elif word == "compact":
            self.assertEqual(store.compact(version=version), len(held))
        elif word == "limit":
            store.limit(self.random.choice((None, self.random.randrange(60))))
        else:
            self.assertEqual(store.reopen(), len(held))

    def expected(self, registry, put, version):
        first, value = put
        return read(registry.schema(first), registry.schema(version), value)

    def check(self, registry, store, held):
        self.assertEqual(store.slots(), tuple(sorted(held)))
        for slot in held:
            own = store.slot_version(slot)
            self.assertIs(registry.reaches(held[slot][0], own), True)
            for version in range(len(registry)):
                if registry.reaches(own, version):
                    found = store.fetch(slot, version=version)
                    self.assertEqual(found, self.expected(registry, held[slot], version))
                    self.assertIs(tuples_only(found), True)

    def test_each_slot_holds_what_was_put_last(self):
        cut = 0
        for _ in range(30):
            registry = draw_registry(self.random, 4)
            store = Store(registry)
            held = {}
            for _ in range(40):
                try:
                    self.step(registry, store, held)
                except PowerLost:
                    cut += 1
                    self.assertEqual(store.reopen(), len(held))
                except (NoRoute, UnknownSlot):
                    pass
                self.check(registry, store, held)
        self.assertGreater(cut, 20)


class Arguments(Checks):
    def test_lists_that_are_returned_are_new_ones(self):
        self.store.put(7, ((1, 5),), version=0)
        first = self.store.log(0)
        first.clear()
        self.store.log(1).append(5)
        self.assert_octets(0, [7, 0, 1, 10], [])
        kept = self.store.log(0)
        self.store.put(7, ((1, 6),), version=0)
        self.assertEqual(kept, [7, 0, 1, 10])
        self.assertIs(self.store.slots().__class__, tuple)
        self.assertIs(kept.__class__, list)

    def test_arguments_stay_as_they_were(self):
        value = ((1, 5), (2, "abc"))
        before = copy.deepcopy(value)
        self.store.put(7, value, version=1)
        self.store.migrate(7, version=3)
        self.assertEqual(value, before)

    def test_three_stores_share_nothing_but_the_registry(self):
        others = [Store(self.registry), Store(self.registry)]
        self.store.put(7, ((1, 5),), version=0)
        others[0].put(8, ((1, 6),), version=0)
        others[0].compact(version=3)
        others[1].limit(0)
        with self.assertRaises(PowerLost):
            others[1].put(9, ((1, 7),), version=0)
        self.assert_octets(0, [7, 0, 1, 10], [])
        self.assertEqual([store.head() for store in others], [1, 0])
        self.assertEqual([store.log(0) for store in others], [[8, 0, 1, 12], []])
        self.assertEqual([store.log(1) for store in others], [[8, 3, 3, 12, 0, 0], []])
        self.assertEqual((self.store.slots(), others[0].slots()), ((7,), (8,)))


class Interface(Checks):
    def test_each_method_is_defined_in_the_class(self):
        self.assertEqual(Store.__module__, "schemabridge.store")
        for name in (
                "__init__", "put", "migrate", "compact", "limit", "reopen", "fetch", "slots", "slot_version", "head",
                "log"):
            self.assertIn(name, vars(Store))

    def test_parameters_have_the_names_of_the_document(self):
        store = Store(registry=self.registry)
        self.assertIsNone(store.put(slot=7, value=((1, 5),), version=0))
        self.assertIs(store.migrate(slot=7, version=1), True)
        self.assertEqual(store.fetch(slot=7, version=1), ((1, 5),))
        self.assertEqual(store.slot_version(slot=7), 1)
        self.assertEqual(store.compact(version=1), 1)
        self.assertIsNone(store.limit(octets=5))
        self.assertEqual(store.log(area=1), [7, 1, 3, 1, 10, 0])

    def test_versions_are_passed_by_keyword(self):
        for call, arguments in (
                (self.store.put, (7, ((1, 5),), 0)), (self.store.migrate, (7, 0)), (self.store.compact, (0,)),
                (self.store.fetch, (7, 0))):
            with self.assertRaises(TypeError):
                call(*arguments)


if __name__ == "__main__":
    unittest.main()
