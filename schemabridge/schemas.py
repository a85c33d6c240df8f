"""Schemas: their bodies, the least depths of their definitions, and whether they are valid."""

from schemabridge.ids import are_alternatives, are_live_and_retired, is_ascending
from schemabridge.leaves import is_leaf_value, is_valid_leaf

MOST_DEFINITIONS = 8
LONGEST_NAME = 12
MOST_ITEMS = 99
LARGEST_SIMPLE_VALUE = 100


def body_of(schema, name):
    """Returns the body of the definition with that name."""
    return dict(schema[1])[name]


def with_body(schema, name, body):
    """Returns the schema with that body in the place of the body of that name."""
    root, definitions = schema
    return (root, tuple([(found, body if found == name else old) for found, old in definitions]))


def least_depths(schema):
    """Returns a dict from each name whose definition has values to its least depth."""
    definitions = schema[1]
    depths = {}
    # Before each round, depths holds exactly the definitions with a value of a smaller depth.
    # Therefore what a round finds is added only when the round is over.
    for depth in range(1, len(definitions) + 1):
        found = [name for name, body in definitions if name not in depths and _has_value(body, depths)]
        for name in found:
            depths[name] = depth
    return depths


def is_valid(schema):
    """Tells whether the schema, of the shape of points 2 to 4, is valid (point 9)."""
    if not _is_well_formed(schema):
        return False
    depths = least_depths(schema)
    if len(depths) < len(schema[1]):
        return False
    counts = _simple_value_counts(schema, depths)
    return all([count <= LARGEST_SIMPLE_VALUE for count in counts.values()])


def is_leaf(part):
    """Tells whether a part is a leaf and not a name."""
    return not isinstance(part, str)


def inner_parts(body):
    """Returns a dict from each live id of a record or a union to its part, by ascending ids."""
    return {row[0]: row[1] for row in body[1]}


def parts_of(body):
    """Returns the list of the parts of a body: that of a list, or those of its fields or cases in their order."""
    return [body[1]] if body[0] == "list" else [row[1] for row in body[1]]


def with_parts(body, parts):
    """Returns the body with these parts, which are as many as it has, in the place of its own ones."""
    if body[0] == "list":
        return (body[0], parts[0]) + body[2:]
    rows = tuple([(row[0], part) + row[2:] for row, part in zip(body[1], parts)])
    return (body[0], rows) + body[2:]


def simple_case(union, depths):
    """Returns the case of the simple value of a union that is not open."""
    # The first one of several least ones is the one with the least id.
    return min(union[1], key=lambda case: 0 if is_leaf(case[1]) else depths[case[1]])


def _has_value(body, depths):
    """Tells whether leaves and the definitions in depths are enough for a value of the body."""
    if body[0] == "union":
        _, cases, _, is_open = body
        return is_open or any([_is_known(part, depths) for _, part in cases])
    return all([_is_known(part, depths) for part in _needed_parts(body)])


def _is_known(part, depths):
    return is_leaf(part) or part in depths


def _needed_parts(body):
    """Returns the parts, with repetitions, of which each value of a list or a record has values."""
    if body[0] == "list":
        _, part, low, _ = body
        return [part] * low
    return [part for _, part, mode, _ in body[1] if mode != "optional"]


def _simple_parts(body, depths):
    """Returns the parts, with repetitions, of the values that the simple value of a body contains."""
    if body[0] != "union":
        return _needed_parts(body)
    if body[3]:
        return []
    _, part = simple_case(body, depths)
    return [part]


def _simple_value_counts(schema, depths):
    """Returns a dict from each name to the number of values of its simple value (point 9)."""
    # The simple values are counted and never built, because they may be far too large for that.
    # All definitions in a simple value have smaller least depths, so they are counted before it.
    counts = {}
    for name in sorted(depths, key=lambda found: depths[found]):
        parts = _simple_parts(body_of(schema, name), depths)
        counts[name] = 1 + sum([1 if is_leaf(part) else counts[part] for part in parts])
    return counts


def _is_well_formed(schema):
    """Tells whether points 2 to 4 hold."""
    root, definitions = schema
    names = tuple([name for name, _ in definitions])
    if not 1 <= len(names) <= MOST_DEFINITIONS or not is_ascending(names) or root not in names:
        return False
    return all([_is_name(name) and _is_valid_body(body, names) for name, body in definitions])


def _is_name(text):
    return 1 <= len(text) <= LONGEST_NAME and all(["a" <= letter <= "z" for letter in text])


def _is_valid_body(body, names):
    if body[0] == "list":
        _, part, low, high = body
        return _is_valid_part(part, names) and 0 <= low <= high <= MOST_ITEMS and high >= 1
    if body[0] == "record":
        _, fields, retired = body
        live = tuple([field[0] for field in fields])
        return are_live_and_retired(live, retired) and all([_is_valid_field(field, names) for field in fields])
    _, cases, retired, is_open = body
    live = tuple([case[0] for case in cases])
    return are_alternatives(live, retired, is_open) and all([_is_valid_part(part, names) for _, part in cases])


def _is_valid_part(part, names):
    if is_leaf(part):
        return is_valid_leaf(part)
    return part in names


def _is_valid_field(field, names):
    """Tells whether the part, the mode and the default of a field obey point 3."""
    _, part, mode, default = field
    if not _is_valid_part(part, names):
        return False
    if mode == "default":
        return is_leaf(part) and part[0] != "choice" and is_leaf_value(part, default)
    return mode in ("required", "optional") and default is None
