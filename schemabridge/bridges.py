"""Bridges (points 22 and 29): octets of an old schema's values read as octets of a new schema's values.

A block is what is to be done for a value of one body: a tuple of tasks, which a pump does in their order.
Of the octets that a task reads, it returns all of them if is_kept is True and none otherwise. A task is:
- ("number", low, high, is_kept) or ("text", low, high, is_kept): reads a value of the leaf.
- ("choice", leaf, new_symbols): reads a value of the leaf and returns it, or 0 if it is none of the new symbols;
  if they are None, it returns nothing.
- ("list", low, high, is_kept, task): reads the number of items, and does the task for each of them.
- ("union", tasks): reads the natural number of a case, and does what the dict has for it.
- ("presence", tasks): reads the octet of an optional field, and does what the dict has for it.
- ("block", pair): does the block of a reachable pair.
- ("skip", name): does the block that reads a value of the old schema and drops it.
- ("write", octets): reads nothing and returns the octets.
"""

from schemabridge.codec import leaf_octets
from schemabridge.errors import InvalidCertificate
from schemabridge.grounds import certificate_holds, reachable_pairs
from schemabridge.numbers import write_number
from schemabridge.schemas import inner_parts, is_leaf


class Bridge:
    """What turns the octets of messages of an old schema into those of a new schema that follows it.

    `root` is the pair of the roots, `blocks` a dict from each reachable pair to its block, and `skips` a
    dict from each name of the old schema to the block that drops its values.
    """

    def __init__(self, root, blocks, skips):
        self.root = root
        self.blocks = blocks
        self.skips = skips

    def __len__(self):
        return len(self.blocks)


def build(old, new, pairs):
    """Returns the bridge for a certificate for two schemas."""
    if not certificate_holds(old, new, pairs):
        raise InvalidCertificate("the pairs are not a certificate for the two schemas")
    old_bodies = dict(old[1])
    new_bodies = dict(new[1])
    blocks = {}
    for old_name, new_name in reachable_pairs(old, new):
        blocks[(old_name, new_name)] = _block(old_bodies[old_name], new_bodies[new_name])
    skips = {name: _block(old_bodies[name], None) for name in old_bodies}
    return Bridge((old[0], new[0]), blocks, skips)


def _block(old_body, new_body):
    """Returns the block for values of the old body, which are dropped if there is no new body."""
    if old_body[0] == "record":
        return _record_block(old_body, new_body)
    if old_body[0] == "union":
        return (_union_task(old_body, new_body),)
    _, part, low, high = old_body
    item_task = _part_task(part, None if new_body is None else new_body[1])
    return (("list", low, high, new_body is not None, item_task),)


def _part_task(old_part, new_part):
    """Returns the task for values of the old part, which are dropped if there is no new part."""
    if not is_leaf(old_part):
        return ("skip", old_part) if new_part is None else ("block", (old_part, new_part))
    if old_part[0] == "choice":
        return ("choice", old_part, None if new_part is None else new_part[1])
    kind, low, high = old_part
    return (kind, low, high, new_part is not None)


def _union_task(old_body, new_body):
    _, cases, _, is_open = old_body
    new_parts = None if new_body is None else inner_parts(new_body)
    tasks = {}
    for number, part in cases:
        new_part = None if new_parts is None else new_parts.get(number)
        tasks[number] = (_head(number, new_parts), _part_task(part, new_part))
    if is_open:
        tasks[0] = (_head(0, new_parts),)
    return ("union", tasks)


def _head(number, new_parts):
    """Returns the task that writes a case of the old schema, if it is not dropped."""
    if new_parts is None:
        return ("write", [])
    return ("write", write_number(number if number in new_parts else 0))


def _record_block(old_body, new_body):
    old_fields = {field[0]: field for field in old_body[1]}
    new_fields = {} if new_body is None else {field[0]: field for field in new_body[1]}
    tasks = []
    for number in sorted(set(old_fields) | set(new_fields)):
        new_field = new_fields.get(number)
        if number not in old_fields:
            tasks.append(("write", _octets_without(new_field)))
        else:
            tasks.extend(_field_tasks(old_fields[number], new_field))
    return tuple(tasks)


def _field_tasks(old_field, new_field):
    """Returns the tuple of the tasks for an old field, which is dropped if there is no new field."""
    _, part, mode, _ = old_field
    new_part = None if new_field is None else new_field[1]
    tasks = (("write", _octets_ahead(new_field)), _part_task(part, new_part))
    if mode != "optional":
        return tasks
    return (("presence", {0: (("write", _octets_without(new_field)),), 1: tasks}),)


def _octets_ahead(field):
    """Returns the octets ahead of the value of a field of the new schema, none if there is no such field."""
    return [1] if field is not None and field[2] == "optional" else []


def _octets_without(field):
    """Returns the octets of a field of the new schema that gets no value from the old one."""
    if field is None:
        return []
    _, part, mode, default = field
    return leaf_octets(part, default) if mode == "default" else [0]
