"""The least common successor of two schemas (points 26 to 28).

A cell of names is written as the name of the first schema, a plus and the name of the second one, where
a name that the cell does not have is empty. So a body whose parts are cells has the form of any other
body until the cells get their names.
"""

from schemabridge.errors import Clash, TooLarge
from schemabridge.schemas import MOST_DEFINITIONS, is_leaf, is_valid, parts_of, with_parts

NAMES = "abcdefgh"


def join_leaf(first, second):
    """Returns the leaf that two leaves of the same kind are joined to, and None for leaves of different kinds."""
    if first[0] != second[0]:
        return None
    if first[0] != "choice":
        return (first[0], min(first[1], second[1]), max(first[2], second[2]))
    retired = tuple(sorted(set(first[2]) | set(second[2])))
    live = tuple([symbol for symbol in sorted(set(first[1]) | set(second[1])) if symbol not in retired])
    return ("choice", live, retired, first[3] or second[3])


def clash_depth(first, second):
    """Returns the depth with which the roots of two schemas clash, and None if they do not clash."""
    return _clash_depth(dict(first[1]), dict(second[1]), first[0], second[0])


def merge(first, second):
    """Returns a least common successor of two schemas."""
    around = clash_depth(first, second)
    if around is not None:
        raise Clash(around)
    cells = _reached_cells(dict(first[1]), dict(second[1]), _cell(first[0], second[0]))
    names = {cell: NAMES[place] for place, cell in enumerate(cells)}
    merged = (NAMES[0], tuple([(names[cell], _with_names(cells[cell], names)) for cell in cells]))
    # Each definition has values, because it can read those of both schemas, but its simple value may be too large.
    if not is_valid(merged):
        raise TooLarge("the simple value of a definition consists of too many values")
    return merged


def _clash_depth(first_bodies, second_bodies, first_part, second_part):
    """Returns the number of lists around the first two parts of different kinds, None if the parts do not clash."""
    met = set()
    first = first_part
    second = second_part
    around = 0
    while is_leaf(first) == is_leaf(second):
        if is_leaf(first):
            return around if first[0] != second[0] else None
        first_body = first_bodies[first]
        second_body = second_bodies[second]
        if first_body[0] != second_body[0]:
            return around
        if first_body[0] != "list" or (first, second) in met:
            return None
        met.add((first, second))
        first = first_body[1]
        second = second_body[1]
        around += 1
    return around


def _reached_cells(first_bodies, second_bodies, root):
    """Returns a dict from each cell of names that is reached from the root, which is the first one, to its body."""
    cells = {}
    left = [root]
    while left:
        cell = left.pop()
        if cell not in cells:
            if len(cells) == MOST_DEFINITIONS:
                raise TooLarge("there are too many definitions")
            cells[cell] = _cell_body(first_bodies, second_bodies, cell)
            left.extend([part for part in parts_of(cells[cell]) if not is_leaf(part)])
    return cells


def _with_names(body, names):
    """Returns the body whose cells have got their names."""
    return with_parts(body, [part if is_leaf(part) else names[part] for part in parts_of(body)])


def _cell(first_part, second_part):
    """Returns the cell of two parts that do not clash, or of one part alone if the other one is None."""
    if first_part is None:
        return second_part if is_leaf(second_part) else f"+{second_part}"
    if second_part is None:
        return first_part if is_leaf(first_part) else f"{first_part}+"
    return join_leaf(first_part, second_part) if is_leaf(first_part) else f"{first_part}+{second_part}"


def _cell_body(first_bodies, second_bodies, cell):
    """Returns the body of a cell of names, whose parts are cells."""
    first_name, _, second_name = cell.partition("+")
    if second_name == "":
        body = first_bodies[first_name]
        return with_parts(body, [_cell(part, None) for part in parts_of(body)])
    if first_name == "":
        body = second_bodies[second_name]
        return with_parts(body, [_cell(None, part) for part in parts_of(body)])
    first = first_bodies[first_name]
    second = second_bodies[second_name]
    if first[0] == "list":
        return ("list", _cell(first[1], second[1]), min(first[2], second[2]), max(first[3], second[3]))
    return _joined_body(first_bodies, second_bodies, first, second)


def _joined_body(first_bodies, second_bodies, first, second):
    """Returns the body that two records or two unions are joined to."""
    first_rows = {row[0]: row for row in first[1]}
    second_rows = {row[0]: row for row in second[1]}
    retired = list(first[2] + second[2])
    rows = []
    for number in sorted(set(first_rows) | set(second_rows)):
        if number not in retired:
            row = _joined_row(first_bodies, second_bodies, first_rows.get(number), second_rows.get(number))
            if row is None:
                retired.append(number)
            else:
                rows.append(row)
    if first[0] == "record":
        return ("record", tuple(rows), tuple(sorted(set(retired))))
    is_open = first[3] or second[3] or len(retired) > 0
    return ("union", tuple(rows), tuple(sorted(set(retired))), is_open)


def _joined_row(first_bodies, second_bodies, first, second):
    """Returns the field or case that two are joined to, one of which may be None, and None if its id is retired."""
    if second is None:
        return (first[0], _cell(first[1], None)) + _rest_alone(first[2:])
    if first is None:
        return (second[0], _cell(None, second[1])) + _rest_alone(second[2:])
    rest = _joined_rest(first[2:], second[2:])
    if rest is None or _clash_depth(first_bodies, second_bodies, first[1], second[1]) is not None:
        return None
    return (first[0], _cell(first[1], second[1])) + rest


def _rest_alone(rest):
    """Returns the mode and the default of a field that one record alone has; for a case, which has none, ()."""
    return ("optional", None) if rest == ("required", None) else rest


def _joined_rest(first, second):
    """Returns the mode and the default that two fields get, and None if they can't agree; for two cases, ()."""
    if first == second:
        return first
    rests = {rest[0]: rest for rest in (first, second)}
    if len(rests) == 1:
        return None
    return rests["default"] if "default" in rests else ("optional", None)
