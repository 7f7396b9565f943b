"""What a load here moves there, load cases summed, and plates of other thicknesses."""

from platerest.errors import NoFirm, NoRest, NoThick
from platerest.frees import free_steps, look_at_held, ways_without_step
from platerest.plates import THICKEST, is_between, is_row, look_at_piece, look_at_plate
from platerest.quotients import NOUGHT, ONE, are_fractions, look_at_both, product
from platerest.rests import is_rest_of, rows_of
from platerest.rows import settled_each
from platerest.ways import all_ways, held_by, is_holding, look_at_way, others_of, ways_of


def look_at_firm(plate, held):
    """Refuse what is no plate, then what is no held ways of it, then such as don't make it firm."""
    look_at_held(plate, held)
    if ways_without_step(plate, free_steps(plate, held)):
        raise NoFirm("the plate isn't firm with the held ways")


def moved_by(plate, held, ways):
    """For each of the ways the rest of a firm plate with a load of 1 there alone, all held ways at nought."""
    loose = others_of(all_ways(plate), held)
    columns = [[ONE if other == way else NOUGHT for other in loose] for way in ways]
    told = []
    for column in settled_each(rows_of(plate, loose), columns)[1]:
        motions = dict(zip(loose, column))
        told.append(tuple([motions.get(way, NOUGHT) for way in all_ways(plate)]))
    return told


def influence(plate, held, way, other):
    """What a load of 1 at the way moves at the other one, all held ways at nought."""
    look_at_firm(plate, held)
    look_at_way(plate, way)
    look_at_way(plate, other)
    return moved_by(plate, held, [way])[0][other]


def influences(plate, held):
    """For each way the tuple of what a load of 1 there moves at each way."""
    look_at_firm(plate, held)
    return tuple(moved_by(plate, held, all_ways(plate)))


def is_load_case(plate, thing):
    """Whether the thing, whatever it is, is a tuple (holding, loads, motions) of which the motions are a rest."""
    if not is_row(thing, 3, 3):
        return False
    holding, loads, motions = thing
    if not is_holding(all_ways(plate), holding) or not are_fractions(loads, ways_of(plate)):
        return False
    return is_rest_of(plate, holding, loads, motions)


def look_at_load_cases(plate, one, other):
    """Refuse what is no load case, then holdings of unlike ways."""
    if not is_load_case(plate, one):
        raise NoRest("the first one is no load case")
    if not is_load_case(plate, other):
        raise NoRest("the second one is no load case")
    if held_by(one[0]) != held_by(other[0]):
        raise NoRest("the holdings are of unlike ways")


def summed(plate, one, other, *, first=(1, 1), second=(1, 1)):
    """The load case of two of the same held ways, each so many times, added."""
    look_at_plate(plate)
    look_at_load_cases(plate, one, other)
    look_at_both(first, second)
    weights = (first, second)
    moves = [product(weights, (mine[1], its[1])) for mine, its in zip(one[0], other[0])]
    loads = [product(weights, both) for both in zip(one[1], other[1])]
    motions = [product(weights, both) for both in zip(one[2], other[2])]
    return (tuple(zip(held_by(one[0]), moves)), tuple(loads), tuple(motions))


def look_at_thick(thick):
    """Refuse what is no thickness."""
    if not is_between(thick, 1, THICKEST):
        raise NoThick("that is no whole number from 1 to 9")


def thick_at(plate, piece, thick):
    """The plate with another thickness of a piece; nothing is looked at."""
    corners, pieces, thicks, stuff = plate
    return (corners, pieces, thicks[:piece] + (thick,) + thicks[piece + 1:], stuff)


def thickened(plate, piece, thick):
    """The plate with another thickness of a piece."""
    look_at_plate(plate)
    look_at_piece(plate, piece)
    look_at_thick(thick)
    return thick_at(plate, piece, thick)
