"""Schemas and values drawn at random, the same ones in each run."""

from random import Random

from schemabridge.schemas import body_of, is_leaf, is_valid, least_depths
from schemabridge.values import is_of, simple_value

NAMES = ("a", "b", "c", "d", "note", "z")
MORE_NAMES = ("a", "b", "c", "d", "e", "f", "notes", "y")
TEXTS = ("", "a", "ab", " ~", "hello", "xyz", "\"\\'")


def draw_ids(random, most):
    return tuple(sorted(random.sample(range(1, 8), random.randint(0, most))))


def draw_leaf(random):
    kind = random.choice(("number", "text", "choice"))
    if kind == "number":
        low = random.choice((-10 ** 15, -200, -2, 0, 3))
        return ("number", low, low + random.choice((0, 1, 5, 500)))
    if kind == "text":
        low = random.choice((0, 0, 1, 3))
        return ("text", low, low + random.choice((0, 1, 3, 30)))
    is_open = random.random() < 0.5
    live = draw_ids(random, 3)
    retired = tuple(number for number in draw_ids(random, 2) if number not in live)
    if is_open:
        return ("choice", live, retired, True)
    return ("choice", live or (4,), (), False)


def draw_part(random, names):
    return random.choice(names) if random.random() < 0.5 else draw_leaf(random)


def draw_field(random, number, names):
    mode = random.choice(("required", "optional", "optional", "default"))
    part = draw_part(random, names)
    if mode == "default" and (is_leaf(part) and part[0] != "choice"):
        return (number, part, mode, draw_leaf_value(random, part))
    return (number, part, mode if mode != "default" else "optional", None)


def draw_body(random, names):
    kind = random.choice(("list", "record", "record", "union"))
    if kind == "list":
        low = random.choice((0, 0, 1, 2))
        return ("list", draw_part(random, names), low, low + random.choice((1, 1, 3)))
    live = draw_ids(random, 4)
    retired = tuple(number for number in draw_ids(random, 2) if number not in live)
    if kind == "record":
        return ("record", tuple(draw_field(random, number, names) for number in live), retired)
    is_open = random.random() < 0.5
    cases = tuple((number, draw_part(random, names)) for number in live)
    if is_open:
        return ("union", cases, retired, True)
    return ("union", cases or ((2, draw_leaf(random)),), (), False)


def draw_schema(random):
    """A valid schema."""
    while True:
        names = tuple(sorted(random.sample(NAMES, random.randint(1, 4))))
        found = (random.choice(names), tuple((name, draw_body(random, names)) for name in names))
        if is_valid(found):
            return found


def draw_leaf_value(random, leaf):
    if leaf[0] == "number":
        return random.choice((leaf[1], leaf[2], random.randint(leaf[1], leaf[2])))
    if leaf[0] == "choice":
        return random.choice(leaf[1] + ((0,) if leaf[3] else ()))
    fitting = [text for text in TEXTS if leaf[1] <= len(text) <= leaf[2]]
    return random.choice(fitting + ["q" * leaf[1], "~" * leaf[2]])


def draw_value(random, found, part, rest=6):
    """A value of the part; only simple values stand deeper than `rest` says."""
    if is_leaf(part):
        return draw_leaf_value(random, part)
    if rest <= 0:
        return simple_value(found, part)
    body = body_of(found, part)
    if body[0] == "list":
        many = random.choice((body[2], min(body[3], body[2] + 1), random.randint(body[2], body[3])))
        return tuple(draw_value(random, found, body[1], rest - 1) for _ in range(many))
    if body[0] == "record":
        held = [field for field in body[1] if field[2] != "optional" or random.random() < 0.6]
        return tuple((field[0], draw_value(random, found, field[1], rest - 1)) for field in held)
    if body[3] and (not body[1] or random.random() < 0.3):
        return (0, None)
    number, inner = random.choice(body[1])
    if not is_leaf(inner) and least_depths(found)[inner] > rest:
        return simple_value(found, part)
    return (number, draw_value(random, found, inner, rest - 1))


def draw_like(random, found):
    """A valid schema with the same names and root and other bounds, fewer fields and fewer cases."""
    while True:
        like = (found[0], tuple((name, draw_body_like(random, body)) for name, body in found[1]))
        if is_valid(like):
            return like


def draw_body_like(random, body):
    if body[0] == "list":
        return ("list", body[1], random.randint(0, body[2]), max(1, random.randint(body[2], body[3] + 1)))
    rows = tuple(row for row in body[1] if random.random() < 0.8)
    return (body[0], rows) + body[2:]


def draw_pairs(many, seed):
    """Pairs of a schema and a message of it."""
    random = Random(seed)
    pairs = []
    for _ in range(many):
        found = draw_schema(random)
        for _ in range(3):
            value = draw_value(random, found, found[0])
            assert is_of(found, found[0], value)
            pairs.append((found, value))
    return pairs


def draw_next(random, found):
    """A valid schema that follows the one given by construction; its names may be others."""
    while True:
        renamed = dict(zip([name for name, _ in found[1]], random.sample(MORE_NAMES, len(found[1]))))
        definitions = [(renamed[name], draw_next_body(random, body, renamed)) for name, body in found[1]]
        after = (renamed[found[0]], tuple(sorted(definitions)))
        if is_valid(after):
            return after


def draw_next_body(random, body, renamed):
    if body[0] == "list":
        _, part, low, high = body
        return ("list", draw_next_part(random, part, renamed), random.randint(0, low), random.randint(high, high + 3))
    kept, retired, new_ids = draw_next_ids(random, body, body[0] == "record" or body[3])
    names = tuple(renamed.values())
    if body[0] == "record":
        fields = [draw_next_field(random, row, renamed) for row in body[1] if row[0] in kept]
        fields += [draw_field(random, number, names) for number in new_ids]
        fields = [
            (row[0], row[1], "optional", None) if row[0] in new_ids and row[2] == "required" else row for row in fields]
        return ("record", tuple(sorted(fields, key=lambda row: row[0])), retired)
    cases = [(row[0], draw_next_part(random, row[1], renamed)) for row in body[1] if row[0] in kept]
    cases += [(number, draw_part(random, names)) for number in new_ids]
    is_open = body[3] or bool(retired) or random.random() < 0.2
    return ("union", tuple(sorted(cases, key=lambda row: row[0])), retired, is_open)


def draw_next_ids(random, body, may_retire):
    """The ids that stay live, those that are retired from now on, and new ones."""
    live = [row if isinstance(row, int) else row[0] for row in body[1]]
    may_retire = may_retire or random.random() < 0.3
    gone = [number for number in live if may_retire and random.random() < 0.2]
    new_ids = [number for number in range(1, 12) if number not in live + list(body[2]) and random.random() < 0.1]
    kept = [number for number in live if number not in gone]
    return kept, tuple(sorted(gone + list(body[2]))), new_ids


def draw_next_field(random, field, renamed):
    number, part, mode, default = field
    part = draw_next_part(random, part, renamed)
    if mode == "default":
        return (number, part, mode, default)
    new_mode = random.choice(("required", "optional", "default") if mode == "required" else ("optional", "default"))
    if new_mode == "default":
        if is_leaf(part) and part[0] != "choice":
            return (number, part, new_mode, draw_leaf_value(random, part))
        new_mode = "optional"
    return (number, part, new_mode, None)


def draw_next_part(random, part, renamed):
    if not is_leaf(part):
        return renamed[part]
    if part[0] == "number":
        return ("number", max(-10 ** 15, part[1] - random.choice((0, 0, 3))), part[2] + random.choice((0, 0, 3)))
    if part[0] == "text":
        return ("text", random.randint(0, part[1]), random.randint(part[2], 40))
    kept, retired, new_ids = draw_next_ids(random, part, part[3])
    return ("choice", tuple(sorted(kept + new_ids)), retired, part[3] or bool(retired))
