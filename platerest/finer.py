"""Plates cut finer: each piece parted in four by the middles of its sides."""

from platerest.errors import NoPlate, TooMany
from platerest.plates import FARTHEST, MOST_CORNERS, MOST_PIECES, look_at_plate, owners, sides_of
from platerest.quotients import NOUGHT, mixed
from platerest.ways import look_at_loads, look_at_motions


def look_at_finer(plate):
    """Refuse what is no plate, then one that can't be cut finer."""
    look_at_plate(plate)
    corners = len(plate[0]) + len(owners(plate))
    if corners > MOST_CORNERS:
        raise TooMany(corners, MOST_CORNERS)
    pieces = 4 * len(plate[1])
    if pieces > MOST_PIECES:
        raise TooMany(pieces, MOST_PIECES)
    if any([2 * abs(part) > FARTHEST for corner in plate[0] for part in corner]):
        raise NoPlate("a corner of the finer plate would lie beyond 100")


def quarters(piece, middles):
    """The four pieces of one, by the number of each side's middle."""
    first, second, third = piece
    # A piece's sides rise, and their middles with them: so each of the four rises, too.
    low, mid, high = [middles[side] for side in sides_of(piece)]
    return [(first, low, mid), (second, low, high), (third, mid, high), (low, mid, high)]


def finer(plate):
    """The plate with double corners and the middles of all sides, and four pieces for each."""
    look_at_finer(plate)
    corners, pieces, thicks, stuff = plate
    ends = sorted(owners(plate))
    points = [(2 * x, 2 * y) for x, y in corners]
    points += [(corners[one][0] + corners[other][0], corners[one][1] + corners[other][1]) for one, other in ends]
    middles = {side: len(corners) + at for at, side in enumerate(ends)}
    parted = sorted([(part, thick) for piece, thick in zip(pieces, thicks) for part in quarters(piece, middles)])
    return (tuple(points), tuple([part for part, thick in parted]), tuple([thick for part, thick in parted]), stuff)


def carried(plate, motions):
    """The motions of the finer plate that are half of the sum of its side's ends at each middle."""
    look_at_finer(plate)
    look_at_motions(plate, motions)
    found = list(motions)
    for one, other in sorted(owners(plate)):
        for along in range(2):
            found.append(mixed((1, 1), (motions[2 * one + along], motions[2 * other + along]), 2))
    return tuple(found)


def loads_over(plate, loads):
    """The loads of the finer plate that are nought at each middle."""
    look_at_finer(plate)
    look_at_loads(plate, loads)
    return loads + (NOUGHT,) * (2 * len(owners(plate)))
