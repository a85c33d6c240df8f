"""Registries for the tests: one with two branches, and such ones that grow at random."""

from schemabridge.errors import TooLarge
from schemabridge.registry import Registry
from tests.building import NUMBER, TEXT, defaults, may_have, needs, record, schema
from tests.sampling import draw_next, draw_schema

FIRST = schema(a=record(needs(NUMBER, 1)))
# Two branches behind the first schema, and what follows both of them.
LEFT = schema(a=record(may_have(NUMBER, 1), may_have(TEXT, 2)))
RIGHT = schema(a=record(defaults(NUMBER, 7, 1), may_have(NUMBER, 3)))
BOTH = schema(a=record(defaults(NUMBER, 7, 1), may_have(TEXT, 2), may_have(NUMBER, 3)))


def branches():
    """A registry with the versions 0 to 3: FIRST, LEFT, RIGHT and BOTH."""
    registry = Registry()
    registry.start(FIRST)
    registry.admit(LEFT, parents=[0])
    registry.admit(RIGHT, parents=(0,))
    registry.admit(BOTH, parents=[2, 1])
    return registry


def draw_registry(random, many):
    """A registry with a version without parents that has grown that many times."""
    registry = Registry()
    registry.start(draw_schema(random))
    for _ in range(many):
        grow(random, registry)
    return registry


def grow(random, registry):
    """Adds a version that follows one of the others and, if it is not too large, one of two that are merged."""
    parent = random.randrange(len(registry))
    registry.admit(draw_next(random, registry.schema(parent)), parents=[parent])
    try:
        registry.merge(random.randrange(len(registry)), random.randrange(len(registry)))
    except TooLarge:
        pass
