"""Values (point 5): their depths, messages (point 6), simple values (point 8) and their sizes (point 9).

Values may be so deep that no function here calls itself for a value within a value.
"""

from schemabridge.ids import is_ascending
from schemabridge.leaves import is_leaf_value, simple_leaf_value
from schemabridge.schemas import inner_parts, is_leaf, least_depths, simple_case

GREATEST_DEPTH = 80
UNKNOWN_CASE = (0, None)


def is_of(schema, part, value):
    """Tells whether a value of any kind is a value of the part."""
    bodies = dict(schema[1])
    left = [(part, value)]
    while left:
        inner_part, inner = left.pop()
        if is_leaf(inner_part):
            if not is_leaf_value(inner_part, inner):
                return False
        elif _has_form(bodies[inner_part], inner):
            left.extend(inner_values(bodies[inner_part], inner))
        else:
            return False
    return True


def depth(schema, part, value):
    """Returns the depth of a value of the part."""
    # There is a definition's value on each level but the last one, which may consist of leaves' values.
    return len([level for level in _levels(schema, part, value) if not all([is_leaf(found) for found, _ in level])])


def is_message(schema, value):
    """Tells whether a value of any kind is a message of the schema."""
    root = schema[0]
    return is_of(schema, root, value) and depth(schema, root, value) <= GREATEST_DEPTH


def simple_value(schema, part):
    """Returns the simple value of the part."""
    return _simple_value(dict(schema[1]), least_depths(schema), part)


def value_count(schema, part, value):
    """Returns of how many values a value of the part consists, itself counted."""
    return sum([len(level) for level in _levels(schema, part, value)])


def inner_values(body, value):
    """Returns the values in a value of the body in their order, each one as a pair of its part and itself."""
    if body[0] == "list":
        return [(body[1], item) for item in value]
    parts = inner_parts(body)
    if body[0] == "record":
        return [(parts[number], inner) for number, inner in value]
    if value == UNKNOWN_CASE:
        return []
    number, inner = value
    return [(parts[number], inner)]


def assemble(nodes):
    """Returns the value that the nodes make up: each node stands ahead of the nodes of the values in it.

    A node is the word "leaf" and the value itself, or the kind of a body and the steps to the values
    in it: the indexes of a list's items, the ids of a record's fields, the id of a case or none.
    A node ("leaf", None) stands for a field that is left out.
    """
    built = []
    # From the last node on, so that the values in a value are built when it is its turn.
    for kind, content in nodes[::-1]:
        if kind == "leaf":
            built.append(content)
        else:
            inner = [built.pop() for _ in content]
            built.append(_joined(kind, content, inner))
    return built[0]


def _joined(kind, steps, inner):
    """Returns the value of that kind with these values in it."""
    if kind == "list":
        return tuple(inner)
    pairs = tuple([(step, value) for step, value in zip(steps, inner) if value is not None])
    if kind == "record":
        return pairs
    return pairs[0] if pairs else UNKNOWN_CASE


def _levels(schema, part, value):
    """Returns a list of the value, the values in it, the values in these and so on, each one with its part."""
    bodies = dict(schema[1])
    levels = []
    level = [(part, value)]
    while level:
        levels.append(level)
        outer = [(bodies[found], held) for found, held in level if not is_leaf(found)]
        level = [pair for body, held in outer for pair in inner_values(body, held)]
    return levels


def _has_form(body, value):
    """Tells whether a value of any kind is a value of the body, but for the values in it."""
    if body[0] == "list":
        _, _, low, high = body
        return isinstance(value, tuple) and low <= len(value) <= high
    if body[0] == "record":
        return isinstance(value, tuple) and _has_form_of_record(body, value)
    if value == UNKNOWN_CASE:
        return body[3]
    return _is_numbered(value) and value[0] in inner_parts(body)


def _has_form_of_record(body, entries):
    if not all([_is_numbered(entry) for entry in entries]):
        return False
    numbers = [number for number, _ in entries]
    live = inner_parts(body)
    if not is_ascending(numbers) or not all([number in live for number in numbers]):
        return False
    return all([field[0] in numbers for field in body[1] if field[2] != "optional"])


def _is_numbered(value):
    """Tells whether a value of any kind is a pair of an integer and something else."""
    return isinstance(value, tuple) and len(value) == 2 and isinstance(value[0], int)


def _simple_value(bodies, depths, part):
    if is_leaf(part):
        return simple_leaf_value(part)
    body = bodies[part]
    if body[0] == "list":
        _, item, low, _ = body
        return tuple([_simple_value(bodies, depths, item) for _ in range(low)])
    if body[0] == "record":
        return tuple([(field[0], _simple_field(bodies, depths, field)) for field in body[1] if field[2] != "optional"])
    if body[3]:
        return UNKNOWN_CASE
    number, case = simple_case(body, depths)
    return (number, _simple_value(bodies, depths, case))


def _simple_field(bodies, depths, field):
    _, part, mode, default = field
    return default if mode == "default" else _simple_value(bodies, depths, part)
