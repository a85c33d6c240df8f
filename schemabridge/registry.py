"""Registries, which keep schemas as versions (points 31 and 32)."""

from schemabridge.bridges import build
from schemabridge.deciding import decide
from schemabridge.errors import InvalidSchema, NoRoute, Refused, UnknownVersion
from schemabridge.grounds import reachable_pairs
from schemabridge.merging import merge
from schemabridge.reading import read
from schemabridge.schemas import is_valid


class Registry:
    """Schemas with version numbers from 0 on, each one with the versions that it follows as its parents."""

    def __init__(self):
        self._schemas = []
        self._parents = []

    def __len__(self):
        return len(self._schemas)

    def __contains__(self, version):
        return 0 <= version < len(self._schemas)

    def start(self, schema):
        """Adds a version without parents, and returns its number."""
        _check_schema(schema)
        return self._add(schema, ())

    def admit(self, schema, *, parents):
        """Adds a version with one or more parents, which it follows, and returns its number."""
        for parent in parents:
            check_version(self, parent)
        _check_schema(schema)
        for parent in parents:
            word, found = decide(self._schemas[parent], schema)
            if word == "breaks":
                raise Refused(parent, found)
        return self._add(schema, tuple(parents))

    def merge(self, first, second):
        """Adds the least common successor of two versions, and returns its number."""
        check_version(self, first)
        check_version(self, second)
        return self._add(merge(self._schemas[first], self._schemas[second]), (first, second))

    def schema(self, version):
        """Returns the schema of a version."""
        check_version(self, version)
        return self._schemas[version]

    def parents(self, version):
        """Returns the tuple of the parents of a version, in the order in which they were given."""
        check_version(self, version)
        return self._parents[version]

    def reaches(self, old, new):
        """Tells whether the new version is reached from the old one."""
        check_version(self, old)
        check_version(self, new)
        met = set()
        left = [new]
        while left:
            version = left.pop()
            if version == old:
                return True
            if version not in met:
                met.add(version)
                left.extend(self._parents[version])
        return False

    def certificate(self, old, new):
        """Returns the reachable pairs of the schemas of two versions."""
        check_route(self, old, new)
        return reachable_pairs(self._schemas[old], self._schemas[new])

    def bridge(self, old, new):
        """Returns the bridge from the schema of the old version to that of the new one."""
        pairs = self.certificate(old, new)
        return build(self._schemas[old], self._schemas[new], pairs)

    def read(self, old, new, value):
        """Returns a message of the old version, read as a message of the new one."""
        check_route(self, old, new)
        return read(self._schemas[old], self._schemas[new], value)

    def _add(self, schema, parents):
        self._schemas.append(schema)
        self._parents.append(parents)
        return len(self._schemas) - 1


def check_version(registry, version):
    """Raises an error if a number is not that of a version of the registry."""
    if version not in registry:
        raise UnknownVersion("there is no version with that number")


def check_route(registry, old, new):
    """Raises an error if a number is not that of a version, or the new version is not reached from the old one."""
    if not registry.reaches(old, new):
        raise NoRoute("the new version is not reached from the old one")


def _check_schema(schema):
    if not is_valid(schema):
        raise InvalidSchema("the schema is not valid")
