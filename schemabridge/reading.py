"""Reading values of one schema as values of another one (points 15 to 17)."""

from schemabridge.errors import InvalidValue, Unreadable
from schemabridge.leaves import is_leaf_value
from schemabridge.schemas import inner_parts, is_leaf
from schemabridge.values import assemble, is_message


def read_part(old, new, old_part, new_part, value):
    """Returns the value of a part of the old schema, read as a value of a part of the new one."""
    old_bodies = dict(old[1])
    new_bodies = dict(new[1])
    nodes = []
    # What is still to be read, what comes next at the end: the path to it, both parts and the old value.
    left = [((), old_part, new_part, value)]
    while left:
        path, source, target, held = left.pop()
        if held is None:
            raise Unreadable(path, "missing")
        before = source if is_leaf(source) else old_bodies[source]
        after = target if is_leaf(target) else new_bodies[target]
        if before[0] != after[0]:
            raise Unreadable(path, "kind")
        if is_leaf(target):
            nodes.append(("leaf", _read_leaf(after, held, path)))
        else:
            inner = _inner_readings(before, after, held, path)
            nodes.append((after[0], tuple([step for step, _, _, _ in inner])))
            left.extend([(path + (step,), one, other, item) for step, one, other, item in inner[::-1]])
    return assemble(nodes)


def read(old, new, value):
    """Returns a message of the old schema, read as a message of the new one."""
    _check_message(old, value)
    return read_part(old, new, old[0], new[0], value)


def read_route(schemas, value):
    """Returns a message of the first schema, read from each schema to the one behind it."""
    _check_message(schemas[0], value)
    message = value
    for place in range(1, len(schemas)):
        old = schemas[place - 1]
        new = schemas[place]
        message = read_part(old, new, old[0], new[0], message)
    return message


def _check_message(schema, value):
    if not is_message(schema, value):
        raise InvalidValue("the value is not a message of the schema")


def _read_leaf(leaf, value, path):
    """Returns the value of a leaf of the same kind, read as a value of the leaf."""
    if leaf[0] != "choice":
        if not is_leaf_value(leaf, value):
            raise Unreadable(path, "range")
        return value
    _, symbols, _, is_open = leaf
    if value in symbols:
        return value
    if not is_open:
        raise Unreadable(path, "symbol")
    return 0


def _inner_readings(before, after, value, path):
    """Returns what is to be read for a value of one body, to get a value of another one of the same kind.

    That is a list of the step, the old part, the new part and the old value.
    """
    if after[0] == "list":
        return _item_readings(before, after, value, path)
    if after[0] == "record":
        return _field_readings(before, after, value)
    return _case_readings(before, after, value, path)


def _item_readings(before, after, value, path):
    _, part, low, high = after
    if not low <= len(value) <= high:
        raise Unreadable(path, "count")
    return [(place, before[1], part, item) for place, item in enumerate(value)]


def _field_readings(before, after, value):
    parts = inner_parts(before)
    held = dict(value)
    readings = []
    for number, part, mode, default in after[1]:
        if number in held:
            readings.append((number, parts[number], part, held[number]))
        elif mode == "default":
            # A default is a value of its part, and stays the same if it is read by this part.
            readings.append((number, part, part, default))
        elif mode == "required":
            # None stands for no value. It is met when it is its turn, behind faults in earlier fields.
            readings.append((number, part, part, None))
    return readings


def _case_readings(before, after, value, path):
    number, inner = value
    live = inner_parts(after)
    if number in live:
        return [(number, inner_parts(before)[number], live[number], inner)]
    if not after[3]:
        raise Unreadable(path, "case")
    return []
