"""Fractions: tuples (top, bottom) of whole numbers in least terms, the bottom from 1 on."""

from platerest.divisors import divisor
from platerest.errors import NoFraction, NoWhole

NOUGHT = (0, 1)
ONE = (1, 1)


def is_whole(thing):
    """Whether the thing is a whole number: an int that is no truth."""
    return isinstance(thing, int) and not isinstance(thing, bool)


def multiple(bottoms):
    """The least number that each of the bottoms divides."""
    many = 1
    for bottom in bottoms:
        many = many // divisor(many, bottom) * bottom
    return many


def reduced(top, bottom):
    """The fraction that a whole number is by another one, which isn't 0."""
    common = divisor(top, bottom)
    if bottom < 0:
        common = -common
    return (top // common, bottom // common)


def is_fraction(thing):
    """Whether the thing, whatever it is, is a fraction."""
    if not isinstance(thing, tuple) or len(thing) != 2:
        return False
    top, bottom = thing
    if not is_whole(top) or not is_whole(bottom) or bottom < 1:
        return False
    return divisor(top, bottom) == 1


def are_fractions(thing, many):
    """Whether the thing, whatever it is, is a tuple of so many fractions."""
    if not isinstance(thing, tuple) or len(thing) != many:
        return False
    return all([is_fraction(part) for part in thing])


def levelled(parts):
    """The tops of fractions over the least bottom that they can have in common, and that bottom."""
    many = multiple([bottom for top, bottom in parts])
    return ([top * (many // bottom) for top, bottom in parts], many)


def mixed(weights, parts, bottom=1):
    """The sum of fractions, each a whole number of times, by a whole number that isn't 0; nothing is looked at."""
    tops, many = levelled(parts)
    return reduced(sum([weight * top for weight, top in zip(weights, tops)]), many * bottom)


def product(ones, others):
    """The sum of the products of fractions, place by place; nothing is looked at."""
    tops, many = levelled(ones)
    return mixed(tops, others, many)


def look_at_fraction(thing):
    """Refuse what is no fraction."""
    if not is_fraction(thing):
        raise NoFraction("that is no fraction")


def look_at_both(one, other):
    """Refuse whichever of the two is no fraction."""
    look_at_fraction(one)
    look_at_fraction(other)


def made(top, bottom=1):
    """The fraction that the top is by the bottom."""
    if not is_whole(top):
        raise NoWhole("the top is no whole number")
    if not is_whole(bottom):
        raise NoWhole("the bottom is no whole number")
    if bottom == 0:
        raise NoWhole("the bottom is nought")
    return reduced(top, bottom)


def plus(one, other):
    """The sum of two fractions."""
    look_at_both(one, other)
    return reduced(one[0] * other[1] + other[0] * one[1], one[1] * other[1])


def minus(one, other):
    """The first fraction less the second."""
    look_at_both(one, other)
    return reduced(one[0] * other[1] - other[0] * one[1], one[1] * other[1])


def times(one, other):
    """The product of two fractions."""
    look_at_both(one, other)
    return reduced(one[0] * other[0], one[1] * other[1])


def over(one, other):
    """The first fraction by the second, which isn't nought."""
    look_at_both(one, other)
    if other[0] == 0:
        raise NoFraction("the second one is nought")
    return reduced(one[0] * other[1], one[1] * other[0])


def less(one, other):
    """Whether the first fraction is less than the second."""
    look_at_both(one, other)
    return one[0] * other[1] < other[0] * one[1]
