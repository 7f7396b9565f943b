"""How pieces strain by motions, with what they push, and what they are worth by that.

Within, all is reckoned in whole numbers: fractions are brought to one bottom, which is taken back at the end.
Only the functions below look_at_moved look at what is handed in.
"""

from platerest.errors import NoStresses
from platerest.plates import look_at_piece, look_at_plate, turn_of
from platerest.quotients import are_fractions, levelled, mixed, reduced
from platerest.ways import look_at_motions, ways_of


def dot(ones, others):
    """The sum of the products, place by place."""
    return sum([one * other for one, other in zip(ones, others)])


def added(terms):
    """The sum of tuples (top, bottom), which don't have to be in least terms."""
    return mixed([1] * len(terms), terms)


def slopes(plate, number):
    """d of a piece, and the whole numbers that d times B, and d times C, are at its corners, in order."""
    corners, piece = plate[0], plate[1][number]
    first, second, third = [corners[corner] for corner in piece]
    nexts = [(second, third), (third, first), (first, second)]
    bees = [one[1] - other[1] for one, other in nexts]
    cees = [other[0] - one[0] for one, other in nexts]
    return (turn_of(corners, piece), bees, cees)


def piece_ways(plate, number):
    """The six ways of a piece's corners: the three along x, then the three along y."""
    piece = plate[1][number]
    return [2 * corner for corner in piece] + [2 * corner + 1 for corner in piece]


def at_piece(plate, number, things):
    """What stands, of things for each way, at the six ways of a piece."""
    return [things[way] for way in piece_ways(plate, number)]


def strained(bees, cees, six):
    """The strain of a piece, times d, by whole motions at its corners."""
    return [dot(bees, six[:3]), dot(cees, six[3:]), dot(cees + bees, six)]


def stressed(stuff, three):
    """The stress to a strain of whole numbers."""
    l, m = stuff
    e, f, g = three
    both = l * (e + f)
    return [both + 2 * m * e, both + 2 * m * f, m * g]


def pushed(bees, cees, three):
    """p * B + r * C, then r * B + q * C, times d, at a piece's corners by a stress of whole numbers."""
    p, q, r = three
    along = [p * bee + r * cee for bee, cee in zip(bees, cees)]
    return along + [r * bee + q * cee for bee, cee in zip(bees, cees)]


def strain_to(stuff, three):
    """The strain to which whole numbers are the stress: whole numbers by one bottom, and that bottom."""
    l, m = stuff
    p, q, r = three
    both = 2 * l + 2 * m
    taken = l * (p + q)
    return ([both * p - taken, both * q - taken, 2 * both * r], 2 * m * both)


def strain_by(plate, motions, number):
    """The strain of a piece: three whole numbers by one bottom, which may be below 0, and that bottom."""
    double, bees, cees = slopes(plate, number)
    tops, many = levelled(at_piece(plate, number, motions))
    return (strained(bees, cees, tops), double * many)


def stress_by(plate, motions, number):
    """The stress of a piece by motions."""
    three, bottom = strain_by(plate, motions, number)
    return tuple([reduced(part, bottom) for part in stressed(plate[3], three)])


def stresses_by(plate, motions):
    """The stresses of motions."""
    return tuple([stress_by(plate, motions, number) for number in range(len(plate[1]))])


def pushes_of(plate, given):
    """The pushes of stresses."""
    terms = [[] for way in range(ways_of(plate))]
    for number, three in enumerate(given):
        double, bees, cees = slopes(plate, number)
        tops, many = levelled(three)
        # A by d is a half, with the sign of d.
        thick = plate[2][number] if double > 0 else -plate[2][number]
        for way, push in zip(piece_ways(plate, number), pushed(bees, cees, tops)):
            terms[way].append((thick * push, 2 * many))
    return tuple([added(row) for row in terms])


def pushes_by(plate, motions):
    """The pushes of the stresses of motions."""
    tops, many = levelled(motions)
    found = pushes_of(plate, stresses_by(plate, [(top, 1) for top in tops]))
    return tuple([reduced(top, bottom * many) for top, bottom in found])


def own_pushes(plate, number):
    """A list of (way, other, push): what a piece pushes at the way where the other one's motion is 1, the rest 0."""
    double, bees, cees = slopes(plate, number)
    ways = piece_ways(plate, number)
    found = []
    for at, other in enumerate(ways):
        six = [0] * 6
        six[at] = 1
        three = stressed(plate[3], strained(bees, cees, six))
        for way, push in zip(ways, pushed(bees, cees, three)):
            found.append((way, other, (plate[2][number] * push, 2 * abs(double))))
    return found


def push_table(plate, numbers):
    """By (way, other) what some pieces, together, push at the way where the other one's motion is 1, the rest 0.

    Two ways that none of the pieces has both are left out.
    """
    terms = {}
    for number in numbers:
        for way, other, push in own_pushes(plate, number):
            terms.setdefault((way, other), []).append(push)
    return {pair: added(row) for pair, row in terms.items()}


def worth_by(plate, motions):
    """What all pieces are worth by motions."""
    tops, many = levelled(motions)
    terms = []
    for number, thick in enumerate(plate[2]):
        double, bees, cees = slopes(plate, number)
        three = strained(bees, cees, at_piece(plate, number, tops))
        terms.append((thick * dot(three, stressed(plate[3], three)), 4 * abs(double)))
    return mixed([1] * len(terms), terms, many ** 2)


def stress_worth_of(plate, given):
    """What all pieces are worth by stresses."""
    terms = []
    for number, three in enumerate(given):
        tops, many = levelled(three)
        others, bottom = strain_to(plate[3], tops)
        double = abs(turn_of(plate[0], plate[1][number]))
        terms.append((plate[2][number] * double * dot(tops, others), 4 * bottom * many ** 2))
    return added(terms)


def are_stresses_of(plate, thing):
    """Whether the thing, whatever it is, is stresses."""
    if not isinstance(thing, tuple) or len(thing) != len(plate[1]):
        return False
    return all([are_fractions(part, 3) for part in thing])


def look_at_moved(plate, motions):
    """Refuse what is no plate, then what is no motions of it."""
    look_at_plate(plate)
    look_at_motions(plate, motions)


def look_at_stresses(plate, given):
    """Refuse what is no stresses of the plate."""
    if not are_stresses_of(plate, given):
        raise NoStresses("the stresses are no tuple with a tuple of three fractions for each piece")


def look_at_stressed(plate, given):
    """Refuse what is no plate, then what is no stresses of it."""
    look_at_plate(plate)
    look_at_stresses(plate, given)


def strain(plate, motions, piece):
    """The strain of a piece by motions."""
    look_at_moved(plate, motions)
    look_at_piece(plate, piece)
    three, bottom = strain_by(plate, motions, piece)
    return tuple([reduced(part, bottom) for part in three])


def stress(plate, motions, piece):
    """The stress of a piece by motions."""
    look_at_moved(plate, motions)
    look_at_piece(plate, piece)
    return stress_by(plate, motions, piece)


def are_stresses(plate, thing):
    """Whether the thing, whatever it is, is stresses of the plate."""
    look_at_plate(plate)
    return are_stresses_of(plate, thing)


def stresses(plate, motions):
    """The stress of each piece by motions."""
    look_at_moved(plate, motions)
    return stresses_by(plate, motions)


def pushes(plate, stresses):
    """With what all pieces, together, push at each way by stresses."""
    look_at_stressed(plate, stresses)
    return pushes_of(plate, stresses)


def worth_of(plate, motions):
    """What all pieces, together, are worth by motions."""
    look_at_moved(plate, motions)
    return worth_by(plate, motions)


def stress_worth(plate, stresses):
    """What all pieces, together, are worth by stresses."""
    look_at_stressed(plate, stresses)
    return stress_worth_of(plate, stresses)
