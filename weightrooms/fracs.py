"""Fractions: tuples (top, bottom) in lowest terms, the bottom from 1 on."""

from weightrooms.errors import NoFraction


def is_whole(thing):
    """Whether a thing is a whole number."""
    # Python counts True and False among the ints; the document doesn't.
    return isinstance(thing, int) and not isinstance(thing, bool)


def common_divisor(one, other):
    """The greatest number that divides both (0 where both are 0)."""
    one, other = abs(one), abs(other)
    while other != 0:
        one, other = other, one % other
    return one


def is_fraction(thing):
    """Whether a thing, whatever it is, is a fraction."""
    if not isinstance(thing, tuple) or len(thing) != 2:
        return False
    top, bottom = thing
    if not is_whole(top) or not is_whole(bottom):
        return False
    return bottom >= 1 and common_divisor(top, bottom) == 1


def fraction(top, bottom):
    """The fraction that two whole numbers make."""
    if bottom == 0:
        raise NoFraction("a fraction has no bottom of 0")
    divisor = common_divisor(top, bottom)
    if bottom < 0:
        # The sign goes to the top: floor division by it is exact here.
        divisor = -divisor
    return (top // divisor, bottom // divisor)


def added(one, other):
    """The sum of two fractions."""
    return fraction(one[0] * other[1] + other[0] * one[1], one[1] * other[1])


def lessened(one, other):
    """The one fraction less the other."""
    return fraction(one[0] * other[1] - other[0] * one[1], one[1] * other[1])


def times(one, other):
    """The product of two fractions."""
    return fraction(one[0] * other[0], one[1] * other[1])


def over(one, other):
    """The one fraction divided by the other."""
    # Where the other is (0, 1) the bottom comes to 0, and is refused as such.
    return fraction(one[0] * other[1], one[1] * other[0])


def is_less(one, other):
    """Whether the one fraction is less than the other."""
    # Both bottoms are above 0, so multiplying by them keeps the order.
    return one[0] * other[1] < other[0] * one[1]


def greatest_of(fractions):
    """The greatest of a list of one fraction or more."""
    found = fractions[0]
    for one in fractions:
        if is_less(found, one):
            found = one
    return found
