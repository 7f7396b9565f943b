"""The greatest divisor in common of whole numbers, in bearable time also where these have many thousand figures."""

GREAT_BITS = 4000
FEW_BITS = 200


def plain_divisor(one, other):
    """The greatest divisor in common, by one remainder after the other."""
    while other:
        one, other = other, one % other
    return abs(one)


def few_steps(one, other):
    """A mixing (a, b, c, d) that makes the numbers half as long, by remainders."""
    low = one.bit_length() // 2
    a, b, c, d = 1, 0, 0, 1
    while other.bit_length() > low:
        many, left = divmod(one, other)
        one, other = other, left
        a, b, c, d = c, d, a - many * c, b - many * d
    return (a, b, c, d)


def mixed_by(mixing, one, other):
    """Two numbers mixed, a * one + b * other and c * one + d * other, none below 0 and the greater one first; and
    the mixing by which they come so."""
    a, b, c, d = mixing
    first = a * one + b * other
    second = c * one + d * other
    if first < 0:
        first, a, b = -first, -a, -b
    if second < 0:
        second, c, d = -second, -c, -d
    if first < second:
        first, second, a, b, c, d = second, first, c, d, a, b
    return (first, second, (a, b, c, d))


def shrinking(one, other):
    """A mixing that makes two numbers, the greater one first, about half as long.

    It is found by their leading bits alone: where it isn't quite that which remainders would give, the numbers are
    a little longer, no more, as a * d - b * c is 1 or -1 and so the divisors in common stay the same.
    """
    half = one.bit_length() // 2
    if half <= FEW_BITS // 2:
        return few_steps(one, other)
    first, second, (a, b, c, d) = mixed_by(shrinking(one >> half, other >> half), one, other)
    cut = max(first.bit_length() - half, 0)
    e, f, g, h = shrinking(first >> cut, second >> cut)
    return (e * a + f * c, e * b + f * d, g * a + h * c, g * b + h * d)


def divisor(one, other):
    """The greatest divisor that two whole numbers have in common; 0 where both are 0."""
    while min(one.bit_length(), other.bit_length()) > GREAT_BITS:
        # A remainder ahead of each mixing, so that the numbers become less however little that one does.
        one, other = abs(other), abs(one) % abs(other)
        half = one.bit_length() // 2
        one, other = mixed_by(shrinking(one >> half, other >> half), one, other)[:2]
    return plain_divisor(one, other)
