"""The grounds on which a schema follows another one: reachable pairs, certificates, composition (points 21 to 23)."""

from schemabridge.schemas import is_leaf
from schemabridge.steps import body_follows, inner_pairs


def reachable_pairs(old, new):
    """Returns the ascending tuple of the reachable pairs of two schemas."""
    old_bodies = dict(old[1])
    new_bodies = dict(new[1])
    reached = set()
    left = [(old[0], new[0])]
    while left:
        old_name, new_name = left.pop()
        if (old_name, new_name) not in reached:
            reached.add((old_name, new_name))
            left.extend(_inner_names(old_bodies[old_name], new_bodies[new_name]))
    return tuple(sorted(reached))


def certificate_holds(old, new, pairs):
    """Tells whether the pairs are a certificate for two schemas."""
    old_bodies = dict(old[1])
    new_bodies = dict(new[1])
    contained = {pair: True for pair in pairs}
    if (old[0], new[0]) not in contained:
        return False
    for old_name, new_name in contained:
        if old_name not in old_bodies or new_name not in new_bodies:
            return False
        if not _is_grounded(old_bodies[old_name], new_bodies[new_name], contained):
            return False
    return True


def compose(first, second):
    """Returns the composition of two collections of pairs as an ascending tuple."""
    targets = {}
    for between, target in second:
        targets.setdefault(between, []).append(target)
    return tuple(sorted({(source, target) for source, between in first for target in targets.get(between, [])}))


def _is_grounded(old_body, new_body, contained):
    """Tells whether two bodies obey the rules and the names that meet in them are contained."""
    return body_follows(old_body, new_body) and all([pair in contained for pair in _inner_names(old_body, new_body)])


def _inner_names(old_body, new_body):
    """Returns the pairs of names that meet in two bodies."""
    pairs = [(old_part, new_part) for _, old_part, new_part in inner_pairs(old_body, new_body)]
    return [(old_part, new_part) for old_part, new_part in pairs if not is_leaf(old_part) and not is_leaf(new_part)]
