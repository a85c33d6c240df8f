"""Fleets: hosts with versions of a registry, and the letters between them (points 33 and 34)."""

from schemabridge.codec import decode, encode
from schemabridge.errors import UnknownHost, UnknownLetter
from schemabridge.pump import convert
from schemabridge.registry import check_route, check_version


class Fleet:
    """Hosts and letters, numbered from 0. A letter is a tuple of its origin, its version and its octets."""

    def __init__(self, registry):
        self._registry = registry
        self._versions = []
        self._inboxes = []
        self._held = []
        # None stands in the place of a letter that is lost, so that its number is not used again.
        self._letters = []

    def add_host(self, version):
        """Adds a host with that version, and returns its number."""
        check_version(self._registry, version)
        self._versions.append(version)
        self._inboxes.append([])
        self._held.append([])
        return len(self._versions) - 1

    def upgrade(self, host, version):
        """Upgrades a host, and returns how many letters it read by that."""
        self._check_host(host)
        check_route(self._registry, self._versions[host], version)
        self._versions[host] = version
        letters = list(self._held[host])
        self._held[host] = []
        many = 0
        for letter in letters:
            if self._read_or_hold(host, letter):
                many += 1
        return many

    def send(self, host, value):
        """Makes a letter of a message of the host's version, and returns its number."""
        self._check_host(host)
        version = self._versions[host]
        octets = encode(self._registry.schema(version), value)
        return self._add_letter(len(self._letters), version, octets)

    def relay(self, host, letter):
        """Makes a letter with the same origin as a letter, and returns its number."""
        self._check_host(host)
        origin, version, octets = self.letter(letter)
        own_version = self._versions[host]
        if not self._registry.reaches(version, own_version):
            return self._add_letter(origin, version, octets)
        bridge = self._registry.bridge(version, own_version)
        return self._add_letter(origin, own_version, convert(bridge, octets))

    def lose(self, letter):
        """Loses a letter."""
        self._check_letter(letter)
        self._letters[letter] = None

    def deliver(self, host, letter):
        """Delivers a letter, and tells whether the host read it; otherwise it holds it."""
        self._check_host(host)
        return self._read_or_hold(host, self.letter(letter))

    def version(self, host):
        """Returns the version of a host."""
        self._check_host(host)
        return self._versions[host]

    def inbox(self, host):
        """Returns the tuple of what a host read: the origins, the versions and the messages."""
        self._check_host(host)
        return tuple(self._inboxes[host])

    def held(self, host):
        """Returns the tuple of the origins of the letters that a host holds, in the order of their delivery."""
        self._check_host(host)
        return tuple([origin for origin, _, _ in self._held[host]])

    def letter(self, number):
        """Returns the origin, the version and the octets of a letter."""
        self._check_letter(number)
        return self._letters[number]

    def _check_host(self, host):
        if not 0 <= host < len(self._versions):
            raise UnknownHost("there is no host with that number")

    def _check_letter(self, number):
        if not 0 <= number < len(self._letters) or self._letters[number] is None:
            raise UnknownLetter("there is no letter with that number, or it is lost")

    def _add_letter(self, origin, version, octets):
        self._letters.append((origin, version, tuple(octets)))
        return len(self._letters) - 1

    def _read_or_hold(self, host, letter):
        """Lets a host read a letter if it can, and hold it otherwise; tells which."""
        origin, version, octets = letter
        own_version = self._versions[host]
        if not self._registry.reaches(version, own_version):
            self._held[host].append(letter)
            return False
        message = decode(self._registry.schema(version), octets)
        value = self._registry.read(version, own_version, message)
        self._inboxes[host].append((origin, own_version, value))
        return True
