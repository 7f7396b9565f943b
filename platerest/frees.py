"""Free motions: those that are nought at each held way and by which no piece strains."""

from platerest.plates import look_at_plate
from platerest.quotients import NOUGHT, ONE, are_fractions
from platerest.rows import filled, stepped, whole
from platerest.strains import at_piece, slopes, strained
from platerest.ways import look_at_ways, ways_of


def strain_lines(plate, number):
    """The three rows of a piece's strain, each times d, with nought as their right."""
    double, bees, cees = slopes(plate, number)
    lines = [[0] * (ways_of(plate) + 1) for part in range(3)]
    for corner, bee, cee in zip(plate[1][number], bees, cees):
        lines[0][2 * corner] = lines[2][2 * corner + 1] = bee
        lines[1][2 * corner + 1] = lines[2][2 * corner] = cee
    return lines


def held_line(plate, way):
    """The row that asks for nought at a way."""
    line = [0] * (ways_of(plate) + 1)
    line[way] = 1
    return line


def free_steps(plate, held):
    """The rows of all strains and of all held ways, brought to steps."""
    lines = [held_line(plate, way) for way in held]
    for number in range(len(plate[1])):
        lines.extend(strain_lines(plate, number))
    return stepped(lines, ways_of(plate))[0]


def ways_without_step(plate, steps):
    """The rising tuple of the ways that are free."""
    taken = [way for way, line in steps]
    return tuple([way for way in range(ways_of(plate)) if way not in taken])


def motions_to(plate, steps, way):
    """The free motion that is 1 at the way, which is free, and nought at all others that are."""
    found = [NOUGHT] * ways_of(plate)
    found[way] = ONE
    return tuple(filled(steps, found))


def strains_nothing(plate, motions):
    """Whether by motions each piece's strain is three noughts."""
    wholes = whole(motions)
    for number in range(len(plate[1])):
        double, bees, cees = slopes(plate, number)
        if any(strained(bees, cees, at_piece(plate, number, wholes))):
            return False
    return True


def is_free_of(plate, held, thing):
    """Whether the thing, whatever it is, is a free motion; plate and held ways aren't looked at."""
    if not are_fractions(thing, ways_of(plate)):
        return False
    return all([thing[way] == NOUGHT for way in held]) and strains_nothing(plate, thing)


def look_at_held(plate, held):
    """Refuse what is no plate, then what is no held ways of it."""
    look_at_plate(plate)
    look_at_ways(plate, held)


def is_free(plate, held, thing):
    """Whether the thing, whatever it is, is a free motion of the plate with the held ways."""
    look_at_held(plate, held)
    return is_free_of(plate, held, thing)


def free_motions(plate, held=()):
    """The list of the told free motions: each is 1 at its own free way and nought at the others."""
    look_at_held(plate, held)
    steps = free_steps(plate, held)
    return [motions_to(plate, steps, way) for way in ways_without_step(plate, steps)]


def free_ways(plate, held=()):
    """The rising tuple of the free ways, one for each of the told free motions."""
    look_at_held(plate, held)
    return ways_without_step(plate, free_steps(plate, held))


def firm(plate, held=()):
    """Whether there is no free motion but noughts."""
    return not free_ways(plate, held)
