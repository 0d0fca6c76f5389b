"""Fractions: tuples (top, bottom) of whole numbers in lowest terms, bottom from 1 on."""

from homeround.kinds import are_wholes


def lowest(top, bottom):
    """Tell the fraction of any top and any bottom but 0."""
    measure = common_measure(top, bottom)
    if bottom < 0:
        measure = -measure
    return (top // measure, bottom // measure)


def common_measure(one, other):
    """Tell the greatest whole number that measures both, of 0 and 0 it is 0."""
    one = abs(one)
    other = abs(other)
    while other > 0:
        left = one % other
        one = other
        other = left
    return one


def is_fraction(thing):
    """Tell of anything whether it is a fraction."""
    if not are_wholes(thing) or len(thing) != 2:
        return False
    top, bottom = thing
    return bottom >= 1 and common_measure(top, bottom) == 1


def plus(one, other):
    """Tell the sum of two fractions."""
    return lowest(one[0] * other[1] + other[0] * one[1], one[1] * other[1])


def minus(one, other):
    """Tell the difference of two fractions."""
    return lowest(one[0] * other[1] - other[0] * one[1], one[1] * other[1])


def times(one, other):
    """Tell the product of two fractions."""
    return lowest(one[0] * other[0], one[1] * other[1])


def is_less(one, other):
    """Tell whether the one fraction is less than the other."""
    return one[0] * other[1] < other[0] * one[1]


def common_bottom(some):
    """Tell the least whole number from 1 on by which each of some fractions becomes whole."""
    common = 1
    for top, bottom in some:
        common = common * (bottom // common_measure(common, bottom))
    return common


def tops_over(some, bottom):
    """Tell the tops that some fractions have over a bottom by which each becomes whole."""
    return [top * (bottom // own) for top, own in some]


def total(some):
    """Tell the sum of some fractions, of none 0."""
    bottom = common_bottom(some)
    return lowest(sum(tops_over(some, bottom)), bottom)
