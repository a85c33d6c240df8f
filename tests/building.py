"""Leaves, bodies and schemas for the tests, in short."""

NUMBER = ("number", 0, 9)
TEXT = ("text", 2, 5)
CHOICE = ("choice", (1, 2), (), False)


def record(*fields, retired=()):
    return ("record", fields, retired)


def needs(part, number=1):
    """A required field."""
    return (number, part, "required", None)


def may_have(part, number=1):
    """An optional field."""
    return (number, part, "optional", None)


def union(*cases, retired=(), is_open=False):
    return ("union", cases, retired, is_open)


def numbers(low):
    """The body of a list whose simple value consists of itself and of that many numbers."""
    return ("list", NUMBER, low, 99)


def schema(**bodies):
    """A schema with these definitions; the root is the first one of them by name."""
    definitions = tuple(sorted(bodies.items()))
    return (definitions[0][0], definitions)
