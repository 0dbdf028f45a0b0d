"""Fractions: pairs (top, bottom) without a common divisor, the bottom above nought."""

from groupcost.kinds import is_number, is_pair


def common_divisor(one, other):
    """The greatest number that divides two numbers of which one at least is not 0."""
    greater = abs(one)
    lesser = abs(other)
    while lesser != 0:
        rest = greater % lesser
        greater = lesser
        lesser = rest
    return greater


def fraction(top, bottom):
    """The fraction of two whole numbers, the bottom not 0."""
    divisor = common_divisor(top, bottom)
    if bottom < 0:
        divisor = -divisor
    return (top // divisor, bottom // divisor)


def fraction_less(one, other):
    """Whether a fraction is less than another one."""
    # Both bottoms are above nought, so taking both fractions so many times keeps their order.
    return one[0] * other[1] < other[0] * one[1]


def fraction_sum(one, other):
    """The sum of two fractions."""
    return fraction(one[0] * other[1] + other[0] * one[1], one[1] * other[1])


def fraction_times(many, one):
    """A fraction taken many times."""
    return fraction(many * one[0], one[1])


def is_fraction(value):
    """Whether a value is a fraction as this program tells one."""
    if not is_pair(value) or not is_number(value[0]) or not is_number(value[1]):
        return False
    return value[1] > 0 and common_divisor(value[0], value[1]) == 1
