"""Pumps, which do the blocks of a bridge for octets that come in pieces (points 29 and 30)."""

from schemabridge.errors import BadOctets
from schemabridge.leaves import is_character_code, is_leaf_value
from schemabridge.numbers import BASE, MOST_OCTETS, read_number, unfold, write_number
from schemabridge.values import GREATEST_DEPTH

# The tasks that begin with reading an octet; all others are done as soon as it is their turn.
READING_TASKS = ("number", "text", "choice", "list", "union", "presence", "characters")


class Pump:
    """Takes the octets of a message in pieces, and returns those of the message that a bridge reads from it.

    Beside the tasks of the bridge's blocks, it has two tasks of its own:
    - ("characters", many, is_kept): reads that many characters, at least one.
    - ("repeat", many, task): does the task that many times.
    """

    def __init__(self, bridge):
        self._bridge = bridge
        self._taken = 0
        self._ready = []
        # The octets of the natural number that is being read.
        self._digits = []
        # The index and the reason of the fault that was met, if there was one.
        self._fault = None
        # The tasks that are left, the next one at the end, each one with the number of lists, records
        # and unions around it.
        self._left = [(("block", bridge.root), 0)]
        self._go_on()

    @property
    def is_complete(self):
        """Tells whether the octets that were taken until now are those of a message."""
        return self._fault is None and len(self._left) == 0

    def take(self, octets):
        """Takes a piece of the octets, and returns octets of the message that is read."""
        for octet in octets:
            if self._fault is None:
                self._take_octet(octet)
        return self._given()

    def finish(self):
        """Ends the input, and returns the last octets of the message that is read."""
        if self._fault is None and len(self._left) > 0:
            self._fault = (self._taken, "end")
        return self._given()

    def _given(self):
        """Returns the octets that are ready, or raises the error for the fault that was met."""
        if self._fault is not None:
            at, reason = self._fault
            raise BadOctets(at, reason)
        given = self._ready
        self._ready = []
        return given

    def _take_octet(self, octet):
        at = self._taken
        self._taken += 1
        if len(self._left) == 0:
            self._fault = (at, "rest")
            return
        task, around = self._left[-1]
        if task[0] == "presence":
            self._choose(task[1], octet, around, at)
        elif task[0] == "characters":
            self._take_character(task, octet, around, at)
        else:
            self._take_digit(task, octet, around)
        self._go_on()

    def _take_digit(self, task, octet, around):
        """Takes an octet of the natural number with which a task begins."""
        self._digits.append(octet)
        if octet >= BASE and len(self._digits) < MOST_OCTETS:
            return
        digits = self._digits
        at = self._taken - len(digits)
        self._digits = []
        try:
            natural, _ = read_number(digits, 0)
        except BadOctets as error:
            self._fault = (at, error.reason)
            return
        if task[0] == "union":
            self._choose(task[1], natural, around, at)
        elif task[0] == "choice":
            self._take_symbol(task, natural, at)
        else:
            self._take_number(task, natural, around, at)

    def _choose(self, tasks, number, around, at):
        """Goes on with what the dict has for a number that began at the index."""
        if number not in tasks:
            self._fault = (at, "range")
            return
        self._left.pop()
        self._put_ahead(tasks[number], around)

    def _take_number(self, task, natural, around, at):
        """Goes on behind the natural number of a number, a text or a list that began at the index."""
        kind, low, high, is_kept = task[:4]
        value = unfold(natural) if kind == "number" else natural
        if not low <= value <= high:
            self._fault = (at, "range")
            return
        self._left.pop()
        if is_kept:
            self._ready.extend(write_number(natural))
        if kind == "list":
            self._put_ahead((("repeat", natural, task[4]),), around)
        elif kind == "text" and natural > 0:
            self._put_ahead((("characters", natural, is_kept),), around)

    def _take_symbol(self, task, symbol, at):
        _, leaf, new_symbols = task
        if not is_leaf_value(leaf, symbol):
            self._fault = (at, "range")
            return
        self._left.pop()
        if new_symbols is not None:
            self._ready.extend(write_number(symbol if symbol in new_symbols else 0))

    def _take_character(self, task, octet, around, at):
        _, many, is_kept = task
        if not is_character_code(octet):
            self._fault = (at, "range")
            return
        self._left.pop()
        if is_kept:
            self._ready.append(octet)
        if many > 1:
            self._put_ahead((("characters", many - 1, is_kept),), around)

    def _go_on(self):
        """Does the tasks that read no octet, up to the next one that does."""
        while self._fault is None and len(self._left) > 0 and self._left[-1][0][0] not in READING_TASKS:
            task, around = self._left.pop()
            if task[0] == "write":
                self._ready.extend(task[1])
            elif task[0] == "block":
                self._begin(self._bridge.blocks[task[1]], around)
            elif task[0] == "skip":
                self._begin(self._bridge.skips[task[1]], around)
            elif task[1] > 0:
                _, many, repeated = task
                self._put_ahead((repeated, ("repeat", many - 1, repeated)), around)

    def _begin(self, block, around):
        """Begins a list, a record or a union."""
        if around == GREATEST_DEPTH:
            self._fault = (self._taken, "depth")
        else:
            self._put_ahead(block, around + 1)

    def _put_ahead(self, tasks, around):
        """Puts tasks ahead of all that are left."""
        self._left.extend([(task, around) for task in tasks[::-1]])


def convert(bridge, octets):
    """Returns the octets of the message that the bridge reads from the one whose octets are given."""
    pump = Pump(bridge)
    converted = pump.take(octets)
    return converted + pump.finish()
