"""Leaves, bodies, schemas and values for the tests, in short."""

NUMBER = ("number", 0, 9)
TEXT = ("text", 2, 5)
CHOICE = ("choice", (1, 2), (), False)
FARTHEST = 10 ** 15


def record(*fields, retired=()):
    return ("record", fields, retired)


def needs(part, number=1):
    """A required field."""
    return (number, part, "required", None)


def may_have(part, number=1):
    """An optional field."""
    return (number, part, "optional", None)


def defaults(part, default, number=1):
    """A default field."""
    return (number, part, "default", default)


def union(*cases, retired=(), is_open=False):
    return ("union", cases, retired, is_open)


def numbers(low):
    """The body of a list whose simple value consists of itself and of that many numbers."""
    return ("list", NUMBER, low, 99)


def schema(**bodies):
    """A schema with these definitions; the root is the first one of them by name."""
    definitions = tuple(sorted(bodies.items()))
    return (definitions[0][0], definitions)


LISTS = schema(a=("list", "a", 0, 2))
RECORDS = schema(a=record(may_have("a", 7)))
UNIONS = schema(a=union((3, "a"), is_open=True))


def deep_lists(levels):
    """A value of LISTS with so many lists around one another."""
    value = ()
    for _ in range(levels - 1):
        value = (value,)
    return value


def deep_records(levels):
    """A value of RECORDS with so many records around one another."""
    value = ()
    for _ in range(levels - 1):
        value = ((7, value),)
    return value


def deep_unions(levels):
    """A value of UNIONS with so many unions around one another."""
    value = (0, None)
    for _ in range(levels - 1):
        value = (3, value)
    return value


DEEP = ((LISTS, deep_lists), (RECORDS, deep_records), (UNIONS, deep_unions))


def tuples_only(value):
    """Tells whether a result is built from integers, strings, None and tuples; True and False are no integers."""
    if value.__class__ is tuple:
        return all(tuples_only(item) for item in value)
    return value is None or value.__class__ in (int, str)
