"""Natural numbers as octets, and integers folded into natural numbers (point 10)."""

from schemabridge.errors import BadOctets

BASE = 128
MOST_OCTETS = 8


def write_number(number):
    """Returns the octets of a natural number."""
    octets = []
    rest = number
    while rest >= BASE:
        octets.append(rest % BASE + BASE)
        rest = rest // BASE
    octets.append(rest)
    return octets


def read_number(octets, at):
    """Returns the natural number that begins at the index, and the index behind its last octet."""
    number = 0
    weight = 1
    for place in range(at, at + MOST_OCTETS):
        if place == len(octets):
            raise BadOctets(place, "end")
        octet = octets[place]
        if octet < BASE:
            if octet == 0 and place > at:
                raise BadOctets(at, "form")
            return (number + octet * weight, place + 1)
        number += (octet - BASE) * weight
        weight = weight * BASE
    raise BadOctets(at, "form")


def fold(number):
    """Returns the natural number into which an integer is folded."""
    return 2 * number if number >= 0 else -2 * number - 1


def unfold(natural):
    """Returns the integer that is folded into a natural number."""
    half = natural // 2
    return half if natural == 2 * half else -half - 1
