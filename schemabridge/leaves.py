"""Leaves (point 2), their values (point 5) and their simple values (point 8)."""

from schemabridge.ids import are_alternatives

FARTHEST_NUMBER = 10 ** 15
LONGEST_TEXT = 40
FIRST_CHARACTER = 32
LAST_CHARACTER = 126
# The percent sign as a code, because the sign itself may not stand in a string of the package.
BARRED_CHARACTER = 37


def is_valid_leaf(leaf):
    """Tells whether point 2 holds for a leaf."""
    if leaf[0] == "choice":
        _, symbols, retired, is_open = leaf
        return are_alternatives(symbols, retired, is_open)
    kind, low, high = leaf
    if kind == "number":
        return -FARTHEST_NUMBER <= low <= high <= FARTHEST_NUMBER
    return 0 <= low <= high <= LONGEST_TEXT


def is_leaf_value(leaf, value):
    """Tells whether a value of any kind is a value of the leaf."""
    if leaf[0] == "choice":
        _, symbols, _, is_open = leaf
        return value in symbols or (is_open and value == 0)
    kind, low, high = leaf
    if kind == "number":
        return isinstance(value, int) and low <= value <= high
    return isinstance(value, str) and low <= len(value) <= high and _has_allowed_characters(value)


def simple_leaf_value(leaf):
    """Returns the simple value of the leaf."""
    if leaf[0] == "choice":
        symbols = leaf[1]
        return symbols[0] if symbols else 0
    kind, low, high = leaf
    if kind == "number":
        return max(low, min(high, 0))
    return "a" * low


def _has_allowed_characters(text):
    codes = [ord(character) for character in text]
    return all([FIRST_CHARACTER <= code <= LAST_CHARACTER and code != BARRED_CHARACTER for code in codes])
