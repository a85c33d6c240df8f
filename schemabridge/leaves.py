"""Leaves (point 2), their values (point 5) and their simple values (point 8)."""

from schemabridge.ids import are_alternatives

FARTHEST_NUMBER = 10 ** 15
LONGEST_TEXT = 40
# The characters from the space on, without the percent sign.
CHARACTERS = (
    " !\"#$&'()*+,-./0123456789:;<=>?@ABCDEFGHIJKLMNOPQRSTUVWXYZ"
    "[\\]^_`abcdefghijklmnopqrstuvwxyz{|}~")
FIRST_CODE = 32
LAST_CODE = 126
CODE_OF_THE_PERCENT_SIGN = 37


def is_valid_leaf(leaf):
    """Tells whether point 2 holds for a leaf."""
    if leaf[0] == "choice":
        _, symbols, retired, is_open = leaf
        return are_alternatives(symbols, retired, is_open)
    kind, low, high = leaf
    if kind == "number":
        return -FARTHEST_NUMBER <= low <= high <= FARTHEST_NUMBER
    return 0 <= low <= high <= LONGEST_TEXT


def is_leaf_value(leaf, value):
    """Tells whether a value of any kind is a value of the leaf."""
    if leaf[0] == "choice":
        _, symbols, _, is_open = leaf
        return value in symbols or (is_open and value == 0)
    kind, low, high = leaf
    if kind == "number":
        return isinstance(value, int) and low <= value <= high
    return isinstance(value, str) and low <= len(value) <= high and _has_allowed_characters(value)


def simple_leaf_value(leaf):
    """Returns the simple value of the leaf."""
    if leaf[0] == "choice":
        symbols = leaf[1]
        return symbols[0] if symbols else 0
    kind, low, high = leaf
    if kind == "number":
        return max(low, min(high, 0))
    return "a" * low


def is_character_code(code):
    """Tells whether texts may contain the character with that code."""
    return FIRST_CODE <= code <= LAST_CODE and code != CODE_OF_THE_PERCENT_SIGN


def character_of(code):
    """Returns the character with that code, which texts may contain."""
    # All characters behind the percent sign stand one place further left, because it is left out.
    place = code - FIRST_CODE if code < CODE_OF_THE_PERCENT_SIGN else code - FIRST_CODE - 1
    return CHARACTERS[place]


def _has_allowed_characters(text):
    return all([is_character_code(ord(character)) for character in text])
