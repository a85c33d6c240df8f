"""The step rules for leaves and bodies (points 19 and 20)."""

from schemabridge.schemas import inner_parts, is_leaf


def leaf_follows(old_leaf, new_leaf):
    """Tells whether two leaves obey the step rules."""
    if old_leaf[0] != new_leaf[0]:
        return False
    if old_leaf[0] != "choice":
        return _contains(new_leaf, old_leaf)
    _, old_symbols, old_retired, old_is_open = old_leaf
    _, new_symbols, new_retired, new_is_open = new_leaf
    return _keeps_ids(old_symbols, old_retired, new_symbols, new_retired) and (new_is_open or not old_is_open)


def body_follows(old_body, new_body):
    """Tells whether two bodies and their inner pairs obey the step rules, as far as no names meet."""
    if old_body[0] != new_body[0] or not _keeps_form(old_body, new_body):
        return False
    return all([_may_meet(old_part, new_part) for _, old_part, new_part in inner_pairs(old_body, new_body)])


def inner_pairs(old_body, new_body):
    """Returns the tuple of the inner pairs of two bodies: the step, the old part and the new part."""
    if old_body[0] != new_body[0]:
        return ()
    if old_body[0] == "list":
        return ((0, old_body[1], new_body[1]),)
    old_parts = inner_parts(old_body)
    new_parts = inner_parts(new_body)
    return tuple([(number, old_parts[number], new_parts[number]) for number in old_parts if number in new_parts])


def keeps_mode(old_field, new_field):
    """Tells whether the modes and defaults of two fields with the same id obey the rules."""
    _, _, old_mode, old_default = old_field
    _, _, new_mode, new_default = new_field
    if old_mode == "default":
        return new_mode == "default" and new_default == old_default
    return old_mode == "required" or new_mode != "required"


def _keeps_form(old_body, new_body):
    """Tells whether two bodies of the same kind obey the rules that are not about their inner pairs."""
    if old_body[0] == "list":
        return _contains(new_body, old_body)
    old_live = inner_parts(old_body)
    new_live = inner_parts(new_body)
    if not _keeps_ids(old_live, old_body[2], new_live, new_body[2]):
        return False
    if old_body[0] == "record":
        return _keeps_modes(old_body, new_body)
    return new_body[3] or not old_body[3]


def _contains(wide, narrow):
    """Tells whether the range of two numbers, texts or lists, their last two items, is contained in the other one."""
    return wide[-2] <= narrow[-2] and narrow[-1] <= wide[-1]


def _keeps_ids(old_live, old_retired, new_live, new_retired):
    """Tells whether each id that is live stays or is retired, and each retired id stays retired."""
    return (
        all([number in new_live or number in new_retired for number in old_live])
        and all([number in new_retired for number in old_retired]))


def _keeps_modes(old_body, new_body):
    """Tells whether the modes and defaults of two records obey the rules."""
    old_fields = {field[0]: field for field in old_body[1]}
    for field in new_body[1]:
        number, _, mode, _ = field
        if number in old_fields:
            if not keeps_mode(old_fields[number], field):
                return False
        elif mode == "required":
            return False
    return True


def _may_meet(old_part, new_part):
    """Tells whether two parts are names, or leaves that obey the rules."""
    if is_leaf(old_part) and is_leaf(new_part):
        return leaf_follows(old_part, new_part)
    return not is_leaf(old_part) and not is_leaf(new_part)
