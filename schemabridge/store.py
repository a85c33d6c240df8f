"""Stores, which keep a message for each slot although the power may fail (points 35 to 37)."""

from schemabridge.codec import decode, encode
from schemabridge.errors import BadOctets, PowerLost, UnknownSlot
from schemabridge.numbers import read_number, write_number
from schemabridge.pump import convert
from schemabridge.registry import check_version


class Store:
    """Slots, whose entries are written into the one of two areas of octets that the head octet names."""

    def __init__(self, registry):
        self._registry = registry
        self._head = 0
        self._areas = [[], []]
        # What the live area holds: from each slot to the version and the octets of its last entry.
        self._entries = {}
        # How many octets can be written before the power fails, None if there is no limit.
        self._rest = None
        self._is_on = True

    def put(self, slot, value, *, version):
        """Puts a message of a version into a slot."""
        self._check_power()
        octets = encode(self._registry.schema(version), value)
        self._add_entry(slot, version, octets)

    def migrate(self, slot, *, version):
        """Migrates a slot to a version, and tells whether an entry was written."""
        own_version, octets = self._entry(slot)
        if own_version == version:
            return False
        self._add_entry(slot, version, convert(self._registry.bridge(own_version, version), octets))
        return True

    def compact(self, *, version):
        """Writes what all slots hold into the other area, and returns the number of entries that were written."""
        self._check_power()
        check_version(self._registry, version)
        other = 1 - self._head
        self._areas[other] = []
        entries = {}
        for slot in sorted(self._entries):
            entries[slot] = self._entry_at(slot, version)
            self._write_entry(other, slot, entries[slot])
        self._spend_octet()
        self._head = other
        self._entries = entries
        return len(entries)

    def limit(self, octets):
        """Sets the number of octets that can be written from now on, or removes the limit with None."""
        self._check_power()
        self._rest = octets

    def reopen(self):
        """Turns the power on without a limit, and returns the number of slots that hold something."""
        self._is_on = True
        self._rest = None
        self._entries, end = _whole_entries(self._areas[self._head])
        self._areas[self._head] = self._areas[self._head][:end]
        return len(self._entries)

    def fetch(self, slot, *, version):
        """Returns the message of a slot, read at a version."""
        own_version, octets = self._entry(slot)
        message = decode(self._registry.schema(own_version), octets)
        return self._registry.read(own_version, version, message)

    def slots(self):
        """Returns the ascending tuple of the slots that hold something."""
        self._check_power()
        return tuple(sorted(self._entries))

    def slot_version(self, slot):
        """Returns the version of the entry of a slot."""
        version, _ = self._entry(slot)
        return version

    def head(self):
        """Returns the head octet."""
        return self._head

    def log(self, area):
        """Returns the octets of an area."""
        return list(self._areas[area])

    def _check_power(self):
        if not self._is_on:
            raise PowerLost("the power is off")

    def _entry(self, slot):
        """Returns the version and the octets that a slot holds."""
        self._check_power()
        if slot not in self._entries:
            raise UnknownSlot("the slot holds nothing")
        return self._entries[slot]

    def _entry_at(self, slot, version):
        """Returns what a slot holds, at the version given if that is reached from the slot's own one."""
        own_version, octets = self._entries[slot]
        if not self._registry.reaches(own_version, version):
            return (own_version, octets)
        return (version, convert(self._registry.bridge(own_version, version), octets))

    def _add_entry(self, slot, version, octets):
        self._write_entry(self._head, slot, (version, octets))
        self._entries[slot] = (version, octets)

    def _write_entry(self, area, slot, entry):
        version, octets = entry
        for octet in write_number(slot) + write_number(version) + write_number(len(octets)) + octets:
            self._spend_octet()
            self._areas[area].append(octet)

    def _spend_octet(self):
        """Lets the power fail ahead of an octet that the limit does not allow."""
        if self._rest == 0:
            self._is_on = False
            raise PowerLost("the power failed")
        if self._rest is not None:
            self._rest -= 1


def _whole_entries(octets):
    """Returns a dict from each slot to its last whole entry, and the number of octets of all whole entries."""
    entries = {}
    end = 0
    while True:
        try:
            slot, at = read_number(octets, end)
            version, at = read_number(octets, at)
            many, at = read_number(octets, at)
        except BadOctets:
            return (entries, end)
        if at + many > len(octets):
            return (entries, end)
        end = at + many
        entries[slot] = (version, octets[at:end])
