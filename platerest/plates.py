"""Plates of triangles, corner to corner: whether something is one, its sides, rim, parts and room."""

from platerest.errors import NoPiece, NoPlate
from platerest.quotients import is_whole

FEWEST_CORNERS = 3
MOST_CORNERS = 30
FARTHEST = 100
MOST_PIECES = 40
THICKEST = 9
MOST_STUFF = 9


def is_between(thing, least, most):
    """Whether the thing, whatever it is, is a whole number from the least to the most."""
    return is_whole(thing) and least <= thing <= most


def is_row(thing, fewest, most):
    """Whether the thing, whatever it is, is a tuple of so many things."""
    return isinstance(thing, tuple) and fewest <= len(thing) <= most


def are_rising(things):
    """Whether each of the things is greater than the one ahead."""
    return all([one < other for one, other in zip(things, things[1:])])


def is_corner(thing):
    """Whether the thing, whatever it is, is a tuple (x, y) that may be a corner."""
    return is_row(thing, 2, 2) and all([is_between(part, -FARTHEST, FARTHEST) for part in thing])


def are_corners(thing):
    """Whether the thing, whatever it is, is the corners of a plate, as far as one sees without the pieces."""
    if not is_row(thing, FEWEST_CORNERS, MOST_CORNERS) or not all([is_corner(part) for part in thing]):
        return False
    return len(set(thing)) == len(thing)


def turn(first, second, third):
    """Twice the area of the triangle of three points: below 0 where they go round with the clock, 0 on one line."""
    ahead = (second[0] - first[0]) * (third[1] - first[1])
    return ahead - (third[0] - first[0]) * (second[1] - first[1])


def turn_of(corners, piece):
    """The same of a piece's three corners, in their order."""
    return turn(corners[piece[0]], corners[piece[1]], corners[piece[2]])


def is_piece(corners, thing):
    """Whether the thing, whatever it is, is three rising numbers of corners that aren't on one line."""
    if not is_row(thing, 3, 3) or not all([is_between(part, 0, len(corners) - 1) for part in thing]):
        return False
    return are_rising(thing) and turn_of(corners, thing) != 0


def are_pieces(corners, thing):
    """Whether the thing, whatever it is, is pieces of the corners, as far as one sees one by one."""
    if not is_row(thing, 1, MOST_PIECES) or not all([is_piece(corners, part) for part in thing]):
        return False
    return are_rising(thing)


def are_thicks(pieces, thing):
    """Whether the thing, whatever it is, is a thickness for each piece."""
    if not is_row(thing, len(pieces), len(pieces)):
        return False
    return all([is_between(part, 1, THICKEST) for part in thing])


def is_stuff(thing):
    """Whether the thing, whatever it is, is a tuple (l, m) that may be a stuff."""
    if not is_row(thing, 2, 2):
        return False
    return is_between(thing[0], 0, MOST_STUFF) and is_between(thing[1], 1, MOST_STUFF)


def triangle(corners, piece):
    """The points of a piece, going round against the clock."""
    first, second, third = [corners[number] for number in piece]
    if turn(first, second, third) < 0:
        return (first, third, second)
    return (first, second, third)


def edges(points):
    """The three sides of a triangle's points, each from one point to the next."""
    return ((points[0], points[1]), (points[1], points[2]), (points[2], points[0]))


def lies_in(point, points):
    """Whether the point lies in the triangle of the points, on its sides or inside."""
    return all([turn(one, other, point) >= 0 for one, other in edges(points)])


def parts_from(points, others):
    """Whether some side of the first triangle has the whole of the other one beyond it, or on it."""
    for one, other in edges(points):
        if all([turn(one, other, point) <= 0 for point in others]):
            return True
    return False


def are_apart(points, others):
    """Whether no point lies inside of both triangles.

    Two such lie apart just where a line parts them, and then one of their sides does.
    """
    return parts_from(points, others) or parts_from(others, points)


def every_corner_is_used(corners, pieces):
    """Whether each corner is one of some piece."""
    return len({number for piece in pieces for number in piece}) == len(corners)


def no_strange_corner(corners, piece, points):
    """Whether no corner lies in the piece, whose points these are, but its own three."""
    strange = [corner for number, corner in enumerate(corners) if number not in piece]
    return not any([lies_in(corner, points) for corner in strange])


def fit_together(corners, pieces):
    """Whether the pieces lie corner to corner, none over another one."""
    triangles = [triangle(corners, piece) for piece in pieces]
    for at, (piece, points) in enumerate(zip(pieces, triangles)):
        if not no_strange_corner(corners, piece, points):
            return False
        if not all([are_apart(points, others) for others in triangles[:at]]):
            return False
    return True


def is_plate(thing):
    """Whether the thing, whatever it is, is a plate."""
    if not is_row(thing, 4, 4):
        return False
    corners, pieces, thicks, stuff = thing
    if not are_corners(corners) or not are_pieces(corners, pieces):
        return False
    if not are_thicks(pieces, thicks) or not is_stuff(stuff):
        return False
    return every_corner_is_used(corners, pieces) and fit_together(corners, pieces)


def look_at_plate(plate):
    """Refuse what is no plate."""
    if not is_plate(plate):
        raise NoPlate("that is no plate")


def look_at_piece(plate, piece):
    """Refuse what is no number of a piece of the plate."""
    if not is_between(piece, 0, len(plate[1]) - 1):
        raise NoPiece("that is no number of a piece")


def sides_of(piece):
    """The three sides of a piece."""
    first, second, third = piece
    return [(first, second), (first, third), (second, third)]


def owners(plate):
    """Each side of the plate, with the list of the numbers of the pieces that have it."""
    found = {}
    for number, piece in enumerate(plate[1]):
        for side in sides_of(piece):
            found.setdefault(side, []).append(number)
    return found


def sides(plate):
    """The rising list of the sides."""
    look_at_plate(plate)
    return sorted(owners(plate))


def rim(plate):
    """The rising list of the sides that but one piece has."""
    look_at_plate(plate)
    found = owners(plate)
    return [side for side in sorted(found) if len(found[side]) == 1]


def neighbours(plate):
    """For each piece the list of those that have a side in common with it, itself among them."""
    found = [[] for piece in plate[1]]
    for numbers in owners(plate).values():
        for number in numbers:
            found[number].extend(numbers)
    return found


def part_of(start, near):
    """The rising tuple of the pieces to which one comes from the start."""
    seen = {start: True}
    left = [start]
    while left:
        last = left.pop()
        for number in near[last]:
            if number not in seen:
                seen[number] = True
                left.append(number)
    return tuple(sorted(seen))


def parts(plate):
    """The rising list of the parts, each a rising tuple of numbers of pieces."""
    look_at_plate(plate)
    near = neighbours(plate)
    return sorted({part_of(start, near) for start in range(len(near))})


def room(plate):
    """Twice the areas of all pieces together."""
    look_at_plate(plate)
    return sum([abs(turn_of(plate[0], piece)) for piece in plate[1]])
