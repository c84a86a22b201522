"""Exact fractions, told as tuples (top, bottom) in lowest terms, and moments."""

from lanescroll.errors import NoFraction
from lanescroll.wholes import is_number


def common_divisor(one, other):
    """The greatest number that divides both of two numbers from 0 on, not both 0."""
    while other > 0:
        one, other = other, one % other
    return one


def fraction(top, bottom=1):
    """The fraction that is top over bottom."""
    if not is_number(top) or not is_number(bottom):
        raise NoFraction("top and bottom must be whole numbers")
    if bottom == 0:
        raise NoFraction("nothing can be parted by nought")
    divisor = common_divisor(abs(top), abs(bottom))
    if bottom < 0:
        # The top alone has a sign, so that each worth has just one form.
        divisor = -divisor
    return (top // divisor, bottom // divisor)


def is_fraction(thing):
    """Whether the thing is a fraction in its one form."""
    if not isinstance(thing, tuple) or len(thing) != 2:
        return False
    top, bottom = thing
    if not is_number(top) or not is_number(bottom) or bottom < 1:
        return False
    return common_divisor(abs(top), bottom) == 1


def is_moment(thing):
    """Whether the thing is a fraction from nought on."""
    return is_fraction(thing) and thing[0] >= 0


def summed(one, top, bottom):
    """The sum of a fraction and of top over bottom, which are in lowest terms."""
    # Divisors are sought of the bottoms, not of the sum: a long fraction and a short one are summed fast so.
    divisor = common_divisor(one[1], bottom)
    part = bottom // divisor
    whole = one[0] * part + top * (one[1] // divisor)
    rest = common_divisor(abs(whole), divisor)
    return (whole // rest, part * (one[1] // rest))


def plus(one, other):
    """The sum of two fractions."""
    return summed(one, other[0], other[1])


def minus(one, other):
    """The first fraction less the second."""
    return summed(one, -other[0], other[1])


def times(one, other):
    """The product of two fractions."""
    # Shortened crosswise ahead of the product, for the same reason as sums are.
    left = common_divisor(abs(one[0]), other[1])
    right = common_divisor(abs(other[0]), one[1])
    return ((one[0] // left) * (other[0] // right), (one[1] // right) * (other[1] // left))


def shared(one, other):
    """The first fraction over the second."""
    top, bottom = other
    if top == 0:
        raise NoFraction("nothing can be shared by nought")
    if top < 0:
        top, bottom = -top, -bottom
    return times(one, (bottom, top))


def less(one, other):
    """Whether the first fraction is less than the second."""
    return one[0] * other[1] < other[0] * one[1]


def floor(one):
    """The greatest whole number that is no greater than the fraction."""
    return one[0] // one[1]
