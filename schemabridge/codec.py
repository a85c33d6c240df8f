"""Messages as octets (points 11 to 13)."""

from schemabridge.errors import BadOctets, InvalidValue
from schemabridge.leaves import character_of, is_character_code, is_leaf_value
from schemabridge.numbers import fold, read_number, unfold, write_number
from schemabridge.schemas import inner_parts, is_leaf
from schemabridge.values import GREATEST_DEPTH, assemble, inner_values, is_message

# A choice is written as the natural number that it is; so are the other natural numbers in octets.
PLAIN_NUMBER = ("choice", (), (), True)


def encode_part(schema, part, value):
    """Returns the octets of a value of the part."""
    bodies = dict(schema[1])
    octets = []
    # What is still to be written, what comes next at the end.
    left = [(part, value)]
    while left:
        inner_part, inner = left.pop()
        if is_leaf(inner_part):
            octets.extend(leaf_octets(inner_part, inner))
        else:
            left.extend(_pieces(bodies[inner_part], inner)[::-1])
    return octets


def encode(schema, value):
    """Returns the octets of a message."""
    if not is_message(schema, value):
        raise InvalidValue("the value is not a message of the schema")
    return encode_part(schema, schema[0], value)


def decode(schema, octets):
    """Returns the message whose octets these are."""
    bodies = dict(schema[1])
    nodes = []
    at = 0
    # What is still to be read, what comes next at the end: a part, whether it is that of an optional
    # field, and the number of lists, records and unions around it.
    left = [(schema[0], False, 0)]
    while left:
        part, is_optional, around = left.pop()
        is_there, at = _read_presence(octets, at) if is_optional else (True, at)
        if not is_there:
            nodes.append(("leaf", None))
        elif is_leaf(part):
            value, at = _read_leaf(part, octets, at)
            nodes.append(("leaf", value))
        else:
            if around == GREATEST_DEPTH:
                raise BadOctets(at, "depth")
            steps, inner, at = _read_beginning(bodies[part], octets, at)
            nodes.append((bodies[part][0], steps))
            left.extend([(inner_part, may_lack, around + 1) for inner_part, may_lack in inner[::-1]])
    if at < len(octets):
        raise BadOctets(at, "rest")
    return assemble(nodes)


def leaf_octets(leaf, value):
    """Returns the octets of a value of the leaf."""
    if leaf[0] == "number":
        return write_number(fold(value))
    if leaf[0] == "choice":
        return write_number(value)
    return write_number(len(value)) + [ord(character) for character in value]


def _pieces(body, value):
    """Returns what is written for a value of the body, as pairs of a part and a value of it."""
    inner = inner_values(body, value)
    if body[0] == "list":
        return [(PLAIN_NUMBER, len(value))] + inner
    if body[0] == "union":
        return [(PLAIN_NUMBER, value[0])] + inner
    held = dict(value)
    pieces = []
    for number, part, mode, _ in body[1]:
        if mode == "optional":
            pieces.append((PLAIN_NUMBER, 1 if number in held else 0))
        if number in held:
            pieces.append((part, held[number]))
    return pieces


def _read_leaf(leaf, octets, at):
    """Returns the value of the leaf that begins at the index, and the index behind it."""
    natural, behind = read_number(octets, at)
    if leaf[0] == "text":
        _, low, high = leaf
        _demand(low <= natural <= high, at)
        return _read_characters(octets, behind, natural)
    value = unfold(natural) if leaf[0] == "number" else natural
    _demand(is_leaf_value(leaf, value), at)
    return (value, behind)


def _read_characters(octets, at, many):
    characters = []
    for place in range(at, at + many):
        code = _octet(octets, place)
        _demand(is_character_code(code), place)
        characters.append(character_of(code))
    return ("".join(characters), at + many)


def _read_presence(octets, at):
    """Returns whether an optional field is there, and the index behind the octet that says so."""
    octet = _octet(octets, at)
    _demand(octet in (0, 1), at)
    return (octet == 1, at + 1)


def _read_beginning(body, octets, at):
    """Returns what the octets of a body's value begin with, and the index behind that.

    It is the steps to the values in it (as `assemble` takes them) and, for each of these values,
    its part and whether it is that of an optional field.
    """
    if body[0] == "record":
        fields = body[1]
        return (tuple([field[0] for field in fields]), [(field[1], field[2] == "optional") for field in fields], at)
    number, behind = read_number(octets, at)
    if body[0] == "list":
        _, part, low, high = body
        _demand(low <= number <= high, at)
        return (tuple(range(number)), [(part, False)] * number, behind)
    if number == 0:
        _demand(body[3], at)
        return ((), [], behind)
    parts = inner_parts(body)
    _demand(number in parts, at)
    return ((number,), [(parts[number], False)], behind)


def _octet(octets, at):
    if at == len(octets):
        raise BadOctets(at, "end")
    return octets[at]


def _demand(is_allowed, at):
    """Raises the error for what the schema does not allow and what begins at the index."""
    if not is_allowed:
        raise BadOctets(at, "range")
