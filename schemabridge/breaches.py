"""What shows that two bodies break a rule (the thirteen ways of point 25).

A breach is a tuple of the body of `before`, the body of `after`, a step and a value: the value that
a message has at that step in the body, or in the place of the body itself if the step is None. If the
value is None, it is the simple one.
"""

from schemabridge.leaves import simple_leaf_value
from schemabridge.schemas import inner_parts, is_leaf, with_parts
from schemabridge.steps import inner_pairs, keeps_mode, leaf_follows
from schemabridge.values import UNKNOWN_CASE, simple_value

ZERO = ("number", 0, 0)
EMPTY_TEXT = ("text", 0, 0)


def breach_of(old, old_body, new_body):
    """Returns a breach of a body of the old schema and a body that does not follow it."""
    if old_body[0] != new_body[0]:
        return (old_body, new_body, None, None)
    return _own_breach(old, old_body, new_body) or _inner_breach(old_body, new_body)


def _own_breach(old, old_body, new_body):
    """Returns a breach of a rule that is not about inner pairs, or None if there is none."""
    if old_body[0] == "list":
        return _list_breach(old, old_body, new_body)
    if old_body[0] == "union":
        return _union_breach(old_body, new_body)
    return (
        _live_field_breach(old_body, new_body)
        or _retired_field_breach(old_body, new_body)
        or _new_field_breach(old_body, new_body))


def _list_breach(old, old_body, new_body):
    _, part, low, high = old_body
    if low < new_body[2]:
        # The simple value of the list has as many items as low says.
        return (old_body, new_body, None, None)
    if high > new_body[3]:
        return (old_body, new_body, None, (simple_value(old, part),) * high)
    return None


def _union_breach(old_body, new_body):
    old_parts = inner_parts(old_body)
    found = _broken_alternative(old_body, new_body, old_parts, inner_parts(new_body))
    if found is None:
        return None
    number, is_in_before, is_in_after = found
    if number == 0:
        return (old_body, new_body, None, UNKNOWN_CASE)
    before = _with_row(old_body, (number, ZERO)) if is_in_before else old_body
    # The value of the case is the same along both ways if `before` is changed, and can't be read otherwise.
    part = ZERO if is_in_before else _strange_part(old_parts[number])
    after = _with_row(new_body, (number, part)) if is_in_after else new_body
    return (before, after, number, None)


def _broken_alternative(old, new, old_live, new_live):
    """Returns what breaks the rules for the ids of two choices or unions, or None if nothing does.

    It is the id (or 0), and whether it has to be live in `before` and in `after` as well.
    """
    _, _, old_retired, old_is_open = old
    _, _, new_retired, new_is_open = new
    if old_is_open and not new_is_open:
        return (0, False, False)
    for number in old_live:
        if number not in new_live and number not in new_retired:
            return (number, False, new_is_open)
    for number in old_retired:
        if number not in new_retired:
            return (number, True, number not in new_live)
    return None


def _live_field_breach(old_body, new_body):
    new_fields = {field[0]: field for field in new_body[1]}
    for field in old_body[1]:
        number, part, mode, _ = field
        if number not in new_fields:
            if number not in new_body[2]:
                return (old_body, _with_field(new_body, number, _strange_part(part)), number, None)
        elif not keeps_mode(field, new_fields[number]):
            # Optional fields are left out of the simple value.
            before = _without_field(old_body, number) if mode == "default" else old_body
            return (before, new_body, None, None)
    return None


def _retired_field_breach(old_body, new_body):
    new_fields = {field[0]: field for field in new_body[1]}
    for number in old_body[2]:
        if number in new_fields:
            _, part, mode, _ = new_fields[number]
            if mode == "required":
                return (old_body, new_body, None, None)
            return (_with_field(old_body, number, _strange_part(part)), new_body, number, None)
        if number not in new_body[2]:
            return (_with_field(old_body, number, ZERO), _with_field(new_body, number, EMPTY_TEXT), number, None)
    return None


def _new_field_breach(old_body, new_body):
    old_live = inner_parts(old_body)
    if any([mode == "required" and number not in old_live for number, _, mode, _ in new_body[1]]):
        return (old_body, new_body, None, None)
    return None


def _inner_breach(old_body, new_body):
    """Returns a breach of the rules for two parts of an inner pair, or None if there is none."""
    for step, old_part, new_part in inner_pairs(old_body, new_body):
        if is_leaf(old_part) != is_leaf(new_part):
            return (old_body, new_body, step, None)
        if is_leaf(old_part) and not leaf_follows(old_part, new_part):
            before, after, value = _leaf_breach(old_part, new_part)
            return (_with_part(old_body, step, before), _with_part(new_body, step, after), step, value)
    return None


def _leaf_breach(old_leaf, new_leaf):
    """Returns the leaf of `before`, the leaf of `after` and the value for a leaf that does not follow another one."""
    if old_leaf[0] != new_leaf[0]:
        return (old_leaf, new_leaf, simple_leaf_value(old_leaf))
    if old_leaf[0] == "choice":
        number, is_in_before, is_in_after = _broken_alternative(old_leaf, new_leaf, old_leaf[1], new_leaf[1])
        before = _with_row(old_leaf, number) if is_in_before else old_leaf
        after = _with_row(new_leaf, number) if is_in_after else new_leaf
        return (before, after, number)
    kind, low, high = old_leaf
    bound = low if low < new_leaf[1] else high
    return (old_leaf, new_leaf, bound if kind == "number" else "a" * bound)


def _strange_part(part):
    """Returns a leaf of another kind than the part."""
    return EMPTY_TEXT if part[0] == "number" else ZERO


def _with_field(record, number, part):
    return _with_row(record, (number, part, "optional", None))


def _with_row(alternatives, row):
    """Returns a choice, record or union with a further symbol, field or case, whose id is not retired any more."""
    kind, rows, retired = alternatives[:3]
    number = row if kind == "choice" else row[0]
    # The ids of the rows differ, therefore nothing behind them is compared.
    live = tuple(sorted(rows + (row,)))
    return (kind, live, tuple([other for other in retired if other != number])) + alternatives[3:]


def _without_field(record, number):
    kind, fields, retired = record
    return (kind, tuple([field for field in fields if field[0] != number]), retired)


def _with_part(body, step, part):
    """Returns the body with that part at the step of an inner pair."""
    if body[0] == "list":
        return with_parts(body, [part])
    return with_parts(body, [part if row[0] == step else row[1] for row in body[1]])
