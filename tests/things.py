"""What several tests hand in: fractions of Python's own as ours, and things of other kinds."""

from fractions import Fraction

GREAT = 10 ** 599 + 7
GREATEST = 10 ** 600 - 1


def ours(number):
    """One of Python's own fractions as a tuple (top, bottom)."""
    number = Fraction(number)
    return (number.numerator, number.denominator)


def theirs(fraction):
    """A tuple (top, bottom) as one of Python's own fractions."""
    return Fraction(fraction[0], fraction[1])


def our_row(numbers):
    return tuple(ours(number) for number in numbers)


def right_frees(table, places):
    """The free places, straight by their meaning: a column of which nothing is left by those ahead of it."""
    kept = []
    frees = []
    for place in range(places):
        left = [line[place] for line in table]
        for at, other in kept:
            many = left[at] / other[at] if left[at] else 0
            if many:
                left = [one - many * part if part else one for one, part in zip(left, other)]
        at = next((at for at, part in enumerate(left) if part != 0), None)
        if at is None:
            frees.append(place)
        else:
            kept.append((at, left))
    return tuple(frees)


def deep(depth):
    """A thing that is so many lists, tuples and dicts deep."""
    thing = (1, 1)
    for level in range(depth):
        thing = ([thing], (thing,), {"a": thing})[level % 3]
    return thing


def no_wholes():
    """Things of which none is a whole number."""
    return [
        True, False, None, "", "1", "a\tb\nc", "~" * 3000, [], [1], (), (1,), (1, 1), {}, {1: 1}, {(1, 2): [None]},
        deep(10), [0] * 2999,
    ]


def no_fractions():
    """Things of which none is a fraction."""
    return [
        True, False, None, 0, 1, -1, GREATEST, "", "1", "1/2", "ab", [], [1, 1], [1, 2], {}, {1: 1, 2: 1},
        (), (1,), (1, 1, 1), (1, 2, 3), (True, 1), (False, 1), (1, True), (True, True), (0, True),
        (2, 4), (2, 2), (-2, 2), (0, 2), (0, 0), (1, 0), (0, -1), (1, -1), (-1, -2), (3, -2), (0, GREATEST),
        (GREAT * 2, 4), (GREAT, GREAT), (GREAT * 3, GREAT * 2), (None, 1), (1, None), ("1", 1), (1, "1"), ("1", "2"),
        ([1], 1), (1, [1]), ((1, 1), 1), (1, (1, 1)), ((1, 1), (1, 1)), ({}, 1), (1, {}), [(1, 1)], deep(10),
        (1,) * 3000, [0] * 2999,
    ]
