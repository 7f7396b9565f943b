"""Plates that several tests hand in, and what the document tells of them reckoned another way: with Python's own
fractions, by gradients and by the work of pushes."""

from fractions import Fraction
from itertools import combinations

from tests.things import ours, theirs

NOUGHT = (0, 1)
ONE = (1, 1)

TRIANGLE = (((0, 0), (1, 0), (0, 1)), ((0, 1, 2),), (1,), (1, 1))
SQUARE = (((0, 0), (1, 0), (0, 1), (1, 1)), ((0, 1, 2), (1, 2, 3)), (2, 3), (1, 2))
# Two triangles with one corner in common.
BOW = (((0, 0), (2, 1), (2, -1), (-2, 1), (-2, -1)), ((0, 1, 2), (0, 3, 4)), (1, 1), (0, 1))
# Two triangles with nothing in common.
APART = (((0, 0), (1, 0), (0, 1), (5, 5), (6, 5), (5, 6)), ((0, 1, 2), (3, 4, 5)), (1, 9), (9, 1))
# Four triangles round a square hole, corner to corner, and each with a side of the next one's.
RING = (
    ((0, 0), (3, 0), (3, 3), (0, 3), (1, 1), (2, 1), (2, 2), (1, 2)),
    ((0, 1, 4), (0, 3, 4), (1, 2, 5), (1, 4, 5), (2, 3, 6), (2, 5, 6), (3, 4, 7), (3, 6, 7)),
    (1, 2, 3, 4, 5, 6, 7, 8), (2, 3),
)
# The greatest of all: thirty corners, forty pieces.
GRID = (
    tuple((20 * x - 60, 24 * y + (x * y) % 3) for y in range(5) for x in range(6)),
    tuple(sorted(
        piece for y in range(4) for x in range(5) for low in (6 * y + x,)
        for piece in ((low, low + 1, low + 6), (low + 1, low + 6, low + 7))
    )),
    tuple(1 + at % 9 for at in range(40)), (3, 2),
)
PLATES = (TRIANGLE, SQUARE, BOW, APART, RING, GRID)


def tower(pieces):
    """23 corners of a great triangle and of a line up in its middle, and of the 41 pieces the first so many."""
    corners = ((-100, -100), (100, -100), (0, 100)) + tuple((0, 7 * at - 90) for at in range(20))
    found = [(0, 1, 3), (0, 2, 22), (1, 2, 22)]
    for low in range(3, 22):
        found += [(0, low, low + 1), (1, low, low + 1)]
    found = tuple(sorted(found)[:pieces])
    return (corners, found, (1,) * len(found), (1, 1))


def turned(one, other, third):
    """Below, above or at 0: on which side of the line from one to the other the third point lies."""
    return (other[0] - one[0]) * (third[1] - one[1]) - (other[1] - one[1]) * (third[0] - one[0])


def lies_in(point, points):
    """Whether the point is a mix, without a minus, of the three points."""
    first, second, third = points
    whole = turned(first, second, third)
    parts = (turned(point, second, third), turned(first, point, third), turned(first, second, point))
    return all(Fraction(part, whole) >= 0 for part in parts)


def cross(one, other):
    """Whether two sides cross, at a point that is no end of either."""
    (a, b), (c, d) = one, other
    return turned(a, b, c) * turned(a, b, d) < 0 and turned(c, d, a) * turned(c, d, b) < 0


def fits(corners, pieces):
    """Whether pieces of three rising corners make a plate: by corners in strange pieces, and by sides that cross."""
    points = [[corners[number] for number in piece] for piece in pieces]
    if any(turned(*three) == 0 for three in points):
        return False
    for piece, three in zip(pieces, points):
        for number, corner in enumerate(corners):
            if number not in piece and lies_in(corner, three):
                return False
    if {number for piece in pieces for number in piece} != set(range(len(corners))):
        return False
    sides = {side for three in points for side in combinations(three, 2)}
    return not any(cross(one, other) for one, other in combinations(sides, 2))


def chance_plate(chance, many, far=12):
    """A plate of so many corners by chance, and of pieces by chance: sometimes all that fit, sometimes fewer."""
    while True:
        corners = []
        while len(corners) < many:
            corner = (chance.randint(-far, far), chance.randint(-far, far))
            if corner not in corners:
                corners.append(corner)
        pieces = chance_pieces(chance, corners, chance.choice((40, 40, many)))
        if fits(corners, pieces):
            thicks = tuple(chance.randint(1, 9) for piece in pieces)
            return (tuple(corners), pieces, thicks, (chance.randint(0, 9), chance.randint(1, 9)))


def chance_pieces(chance, corners, most):
    """Pieces of the corners, taken by chance where they still fit."""
    threes = list(combinations(range(len(corners)), 3))
    chance.shuffle(threes)
    pieces = []
    for three in threes:
        if len(pieces) < most and fits_beside(corners, pieces, three):
            pieces.append(three)
    return tuple(sorted(pieces))


def fits_beside(corners, pieces, three):
    points = [corners[number] for number in three]
    if turned(*points) == 0:
        return False
    strange = [corner for corner in corners if corner not in points]
    if any(lies_in(corner, points) for corner in strange):
        return False
    others = {side for piece in pieces for side in combinations([corners[number] for number in piece], 2)}
    return not any(cross(side, other) for side in combinations(points, 2) for other in others)


def gradient(points, values):
    """How a value that is flat over a triangle rises along x and along y."""
    (xa, ya), (xb, yb), (xc, yc) = points
    a, b, c = values
    whole = Fraction((xb - xa) * (yc - ya) - (xc - xa) * (yb - ya))
    along = ((b - a) * (yc - ya) - (c - a) * (yb - ya)) / whole
    across = ((c - a) * (xb - xa) - (b - a) * (xc - xa)) / whole
    return along, across


def right_strain(plate, numbers, piece):
    """The strain by motions that are Python's own fractions: how these rise over the piece."""
    corners = plate[1][piece]
    points = [plate[0][corner] for corner in corners]
    ux, uy = gradient(points, [Fraction(numbers[2 * corner]) for corner in corners])
    vx, vy = gradient(points, [Fraction(numbers[2 * corner + 1]) for corner in corners])
    return (ux, vy, uy + vx)


def right_stress(plate, numbers, piece):
    l, m = plate[3]
    e, f, g = right_strain(plate, numbers, piece)
    return (l * (e + f) + 2 * m * e, l * (e + f) + 2 * m * f, m * g)


def volume(plate, piece):
    """Thickness times area."""
    return Fraction(plate[2][piece] * abs(turned(*[plate[0][corner] for corner in plate[1][piece]])), 2)


def work(plate, stresses, numbers):
    """What stresses work on the strains by motions, over all pieces."""
    total = Fraction(0)
    for piece, three in enumerate(stresses):
        strain = right_strain(plate, numbers, piece)
        total += volume(plate, piece) * sum(one * other for one, other in zip(three, strain))
    return total


def unit(many, way):
    return [Fraction(int(at == way)) for at in range(many)]


def right_pushes(plate, stresses):
    """The push at a way is what the stresses work where that way alone is moved by 1."""
    many = 2 * len(plate[0])
    return [work(plate, stresses, unit(many, way)) for way in range(many)]


def right_stresses(plate, numbers):
    return [right_stress(plate, numbers, piece) for piece in range(len(plate[1]))]


def right_worth(plate, numbers):
    return work(plate, right_stresses(plate, numbers), numbers) / 2


def right_stress_worth(plate, stresses):
    """What stresses of Python's own fractions are worth, by the strains to which they are the stresses."""
    l, m = plate[3]
    total = Fraction(0)
    for piece, (p, q, r) in enumerate(stresses):
        s = Fraction(p + q) / (2 * l + 2 * m)
        strain = ((p - l * s) / (2 * m), (q - l * s) / (2 * m), Fraction(r) / m)
        total += volume(plate, piece) / 2 * sum(one * other for one, other in zip((p, q, r), strain))
    return total


def strain_table(plate, held):
    """The rows of all strains and of all held ways."""
    many = 2 * len(plate[0])
    table = []
    for piece in range(len(plate[1])):
        columns = [right_strain(plate, unit(many, way), piece) for way in range(many)]
        table += [list(line) for line in zip(*columns)]
    return table + [unit(many, way) for way in held]


def all_theirs(row):
    return [theirs(part) for part in row]


def chance_motions(chance, plate):
    """A tuple with a fraction for each way."""
    found = []
    for way in range(2 * len(plate[0])):
        number = Fraction(chance.randint(-9, 9), chance.choice((1, 1, 2, 3, 4, 7)))
        found.append((number.numerator, number.denominator))
    return tuple(found)


def wholes(*numbers):
    """Whole numbers as fractions."""
    return tuple((number, 1) for number in numbers)


def held_by(holding):
    return tuple(way for way, move in holding)


def chance_holding(chance, plate, most):
    """A holding of some ways by chance, at chance moves."""
    many = 2 * len(plate[0])
    held = sorted(chance.sample(range(many), chance.randint(0, min(most, many))))
    return tuple((way, ours(Fraction(chance.randint(-3, 3), chance.choice((1, 2, 5))))) for way in held)


def keeping(holding, motions):
    """The motions, but those of the holding at its ways."""
    moves = dict(holding)
    return tuple(moves.get(way, motion) for way, motion in enumerate(motions))
