"""Turnings, by which a plate falls on itself, motions turned by them, and motions that all of them leave."""

from platerest.errors import NoTurning
from platerest.plates import is_row, look_at_plate
from platerest.quotients import NOUGHT, is_whole, mixed
from platerest.strains import look_at_moved
from platerest.ways import all_ways, look_at_motions

MATRICES = (
    (1, 0, 0, 1), (1, 0, 0, -1), (-1, 0, 0, 1), (-1, 0, 0, -1),
    (0, 1, 1, 0), (0, 1, -1, 0), (0, -1, 1, 0), (0, -1, -1, 0),
)


def order_by(corners, matrix):
    """The list of the corners' numbers to which the matrix, with some shift, leads; None for a point that is none."""
    a, b, c, d = matrix
    points = [(a * x + b * y, c * x + d * y) for x, y in corners]
    # A shift keeps which point is the least, so it leads the least one to the least corner.
    least, goal = min(points), min(corners)
    numbers = {corner: number for number, corner in enumerate(corners)}
    return [numbers.get((x + goal[0] - least[0], y + goal[1] - least[1])) for x, y in points]


def leads_pieces(plate, order):
    """Whether each piece is led to one of the same thickness."""
    thicks = dict(zip(plate[1], plate[2]))
    for piece, thick in thicks.items():
        if thicks.get(tuple(sorted([order[corner] for corner in piece]))) != thick:
            return False
    return True


def turnings_of(plate):
    """The rising list of all turnings; nothing is looked at."""
    found = []
    for matrix in MATRICES:
        order = order_by(plate[0], matrix)
        if None not in order and leads_pieces(plate, order):
            found.append((tuple(order), matrix))
    return sorted(found)


def is_turning_of(plate, thing):
    """Whether the thing, whatever it is, is a turning; the plate isn't looked at."""
    if not is_row(thing, 2, 2) or not all([isinstance(part, tuple) for part in thing]):
        return False
    # True is equal to 1, so what is equal to a turning doesn't have to be one.
    if not all([is_whole(number) for part in thing for number in part]):
        return False
    return thing in turnings_of(plate)


def turned_by(turning, motions):
    """Motions turned; nothing is looked at."""
    order, (a, b, c, d) = turning
    found = [NOUGHT] * len(motions)
    for corner, goal in enumerate(order):
        along, up = motions[2 * corner], motions[2 * corner + 1]
        # In each row of the matrix one number is nought, so only the other one's sign counts.
        first, second = (along, up) if b == 0 else (up, along)
        found[2 * goal] = ((a + b) * first[0], first[1])
        found[2 * goal + 1] = ((c + d) * second[0], second[1])
    return tuple(found)


def is_turning(plate, thing):
    """Whether the thing, whatever it is, is a turning of the plate."""
    look_at_plate(plate)
    return is_turning_of(plate, thing)


def turnings(plate):
    """The rising list of all turnings of the plate."""
    look_at_plate(plate)
    return turnings_of(plate)


def turned(plate, turning, motions):
    """The motions that have at the corner to which one is led the matrix times its own."""
    look_at_plate(plate)
    if not is_turning_of(plate, turning):
        raise NoTurning("that is no turning of the plate")
    look_at_motions(plate, motions)
    return turned_by(turning, motions)


def even(plate, motions):
    """At each way the sum of the motions by all turnings, by how many these are."""
    look_at_moved(plate, motions)
    found = [turned_by(turning, motions) for turning in turnings_of(plate)]
    ones = [1] * len(found)
    return tuple([mixed(ones, [row[way] for row in found], len(found)) for way in all_ways(plate)])
