"""Deciding whether a schema follows another one, with a certificate or a counterexample (points 21 to 25)."""

from schemabridge.breaches import breach_of
from schemabridge.errors import InvalidValue, Unreadable
from schemabridge.grounds import certificate_holds, reachable_pairs
from schemabridge.reading import read, read_route
from schemabridge.schemas import body_of, inner_parts, is_leaf, is_valid, with_body
from schemabridge.steps import body_follows, inner_pairs
from schemabridge.values import simple_value


def follows(old, new):
    """Tells whether the new schema follows the old one."""
    return certificate_holds(old, new, reachable_pairs(old, new))


def decide(old, new):
    """Returns "follows" and the reachable pairs, or "breaks" and a counterexample."""
    pairs = reachable_pairs(old, new)
    if certificate_holds(old, new, pairs):
        return ("follows", pairs)
    return ("breaks", _counterexample(old, new))


def counterexample_holds(old, new, found):
    """Tells whether two schemas and a value are a counterexample."""
    before, after, message = found
    if not is_valid(before) or not is_valid(after):
        return False
    if not follows(before, old) or not follows(new, after):
        return False
    try:
        return read_route((before, old, new, after), message) != read(before, after, message)
    except InvalidValue:
        return False
    except Unreadable:
        return True


def _counterexample(old, new):
    """Returns a counterexample for two schemas the second one of which does not follow the first one."""
    old_name, new_name, chain = _broken_place(old, new)
    before_body, after_body, step, value = breach_of(old, body_of(old, old_name), body_of(new, new_name))
    before = with_body(old, old_name, before_body)
    after = with_body(new, new_name, after_body)
    message = _value_with_breach(before, old_name, step, value)
    for name, inner_step in chain[::-1]:
        message = _value_around(before, name, inner_step, message)
    return (before, after, message)


def _broken_place(old, new):
    """Returns the first reachable pair of names whose bodies break a rule, and the chain to it.

    The chain is a tuple of the names of the old schema around it, each one with its step. It is as short as
    can be, therefore it meets no pair twice and a message around it is not too deep.
    """
    old_bodies = dict(old[1])
    new_bodies = dict(new[1])
    met = set()
    places = [(old[0], new[0], ())]
    at = 0
    while True:
        old_name, new_name, chain = places[at]
        at += 1
        if (old_name, new_name) not in met:
            met.add((old_name, new_name))
            if not body_follows(old_bodies[old_name], new_bodies[new_name]):
                return (old_name, new_name, chain)
            for step, old_part, new_part in inner_pairs(old_bodies[old_name], new_bodies[new_name]):
                if not is_leaf(old_part):
                    places.append((old_part, new_part, chain + ((old_name, step),)))


def _value_with_breach(before, name, step, value):
    """Returns the value of the broken body; what step and value mean is said in schemabridge.breaches."""
    if step is None:
        return simple_value(before, name) if value is None else value
    inner = simple_value(before, _part_at(body_of(before, name), step)) if value is None else value
    return _value_around(before, name, step, inner)


def _part_at(body, step):
    return body[1] if body[0] == "list" else inner_parts(body)[step]


def _value_around(schema, name, step, inner):
    """Returns the value of a name that has that value at the step, and simple values everywhere else."""
    body = body_of(schema, name)
    if body[0] == "union":
        return (step, inner)
    if body[0] == "list":
        _, part, low, _ = body
        return (inner,) + (simple_value(schema, part),) * (max(low, 1) - 1)
    held = dict(simple_value(schema, name))
    held[step] = inner
    return tuple([(number, held[number]) for number in sorted(held)])
