"""Schemas as messages (point 14)."""

from schemabridge.codec import decode, encode
from schemabridge.errors import InvalidSchema
from schemabridge.schemas import is_leaf, is_valid
from schemabridge.values import is_message

META = ("schema", (
    ("definition", ("record", (
        (1, ("text", 1, 12), "required", None),
        (2, ("number", 1, 3), "required", None),
        (3, "members", "required", None),
        (4, "ids", "required", None),
        (5, ("number", 0, 99), "optional", None),
        (6, ("number", 1, 99), "optional", None),
        (7, ("number", 0, 1), "optional", None)), ())),
    ("definitions", ("list", "definition", 1, 8)),
    ("ids", ("list", ("number", 1, 99), 0, 99)),
    ("leaf", ("record", (
        (1, ("number", 1, 3), "required", None),
        (2, ("number", -1000000000000000, 1000000000000000), "optional", None),
        (3, ("number", -1000000000000000, 1000000000000000), "optional", None),
        (4, "ids", "optional", None),
        (5, "ids", "optional", None),
        (6, ("number", 0, 1), "optional", None)), ())),
    ("member", ("record", (
        (1, ("number", 0, 99), "required", None),
        (2, "part", "required", None),
        (3, ("number", 1, 3), "optional", None),
        (4, ("number", -1000000000000000, 1000000000000000), "optional", None),
        (5, ("text", 0, 40), "optional", None)), ())),
    ("members", ("list", "member", 0, 99)),
    ("part", ("union", ((1, ("text", 1, 12)), (2, "leaf")), (), False)),
    ("schema", ("record", (
        (1, ("text", 1, 12), "required", None),
        (2, "definitions", "required", None)), ()))))

# A kind or a mode is written as its place here, counted from 1.
LEAF_KINDS = ("number", "text", "choice")
BODY_KINDS = ("list", "record", "union")
MODES = ("required", "optional", "default")
CASE_OF_NAMES = 1
CASE_OF_LEAVES = 2


def schema_value(schema):
    """Returns the message of a valid schema."""
    root, definitions = schema
    return ((1, root), (2, tuple([_definition_value(name, body) for name, body in definitions])))


def value_schema(value):
    """Returns the valid schema whose message the value is."""
    if not is_message(META, value):
        raise InvalidSchema("the value is not a message of META")
    fields = dict(value)
    schema = (fields[1], tuple([_definition(found) for found in fields[2]]))
    # A field too many is lost in the schema, and for one too few there is something else in it.
    # Therefore the message of the schema is another one then.
    if not is_valid(schema) or schema_value(schema) != value:
        raise InvalidSchema("the value is not the message of a valid schema")
    return schema


def schema_octets(schema):
    """Returns the octets of the message of a valid schema."""
    return encode(META, schema_value(schema))


def octets_schema(octets):
    """Returns the valid schema that the octets stand for."""
    return value_schema(decode(META, octets))


def _definition_value(name, body):
    number = BODY_KINDS.index(body[0]) + 1
    if body[0] == "list":
        _, part, low, high = body
        member = ((1, 0), (2, _part_value(part)))
        return ((1, name), (2, number), (3, (member,)), (4, ()), (5, low), (6, high))
    if body[0] == "record":
        members = tuple([_field_value(field) for field in body[1]])
        return ((1, name), (2, number), (3, members), (4, body[2]))
    _, cases, retired, is_open = body
    members = tuple([((1, case), (2, _part_value(part))) for case, part in cases])
    return ((1, name), (2, number), (3, members), (4, retired), (7, _flag(is_open)))


def _field_value(field):
    number, part, mode, default = field
    value = ((1, number), (2, _part_value(part)), (3, MODES.index(mode) + 1))
    if mode != "default":
        return value
    return value + ((4 if part[0] == "number" else 5, default),)


def _part_value(part):
    if not is_leaf(part):
        return (CASE_OF_NAMES, part)
    head = (1, LEAF_KINDS.index(part[0]) + 1)
    if part[0] == "choice":
        _, symbols, retired, is_open = part
        return (CASE_OF_LEAVES, (head, (4, symbols), (5, retired), (6, _flag(is_open))))
    _, low, high = part
    return (CASE_OF_LEAVES, (head, (2, low), (3, high)))


def _flag(is_open):
    return 1 if is_open else 0


def _definition(value):
    """Returns the name and the body that a value of a definition most likely stands for."""
    fields = dict(value)
    kind = BODY_KINDS[fields[2] - 1]
    members = [dict(member) for member in fields[3]]
    if kind == "list":
        if len(members) != 1:
            raise InvalidSchema("a list does not have exactly one member")
        return (fields[1], (kind, _part(members[0][2]), fields.get(5, 0), fields.get(6, 0)))
    if kind == "record":
        return (fields[1], (kind, tuple([_field(member) for member in members]), fields[4]))
    cases = tuple([(member[1], _part(member[2])) for member in members])
    return (fields[1], (kind, cases, fields[4], fields.get(7, 0) == 1))


def _field(member):
    mode = MODES[member.get(3, 1) - 1]
    default = member.get(4, member.get(5)) if mode == "default" else None
    return (member[1], _part(member[2]), mode, default)


def _part(value):
    case, inner = value
    if case == CASE_OF_NAMES:
        return inner
    fields = dict(inner)
    kind = LEAF_KINDS[fields[1] - 1]
    if kind == "choice":
        return (kind, fields.get(4, ()), fields.get(5, ()), fields.get(6, 0) == 1)
    return (kind, fields.get(2, 0), fields.get(3, 0))
