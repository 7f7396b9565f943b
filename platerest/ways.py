"""The ways of a plate, and what is told by them: motions, loads, holdings, held ways."""

from platerest.errors import NoHolding, NoLoads, NoMotions, NoWays
from platerest.plates import are_rising, is_between, is_row
from platerest.quotients import are_fractions, is_fraction


def ways_of(plate):
    """How many ways the plate has: two for each corner."""
    return 2 * len(plate[0])


def is_way(plate, thing):
    """Whether the thing, whatever it is, is the number of a way."""
    return is_between(thing, 0, ways_of(plate) - 1)


def are_ways(plate, thing):
    """Whether the thing, whatever it is, is a rising tuple of ways."""
    if not isinstance(thing, tuple) or not all([is_way(plate, part) for part in thing]):
        return False
    return are_rising(thing)


def is_holding(plate, thing):
    """Whether the thing, whatever it is, is a holding."""
    if not isinstance(thing, tuple) or not all([is_row(part, 2, 2) for part in thing]):
        return False
    # Unlike ways of a rising tuple rise themselves, so the moves don't have to be compared.
    if not are_ways(plate, held_by(thing)):
        return False
    return all([is_fraction(move) for way, move in thing])


def held_by(holding):
    """The rising tuple of the ways that a holding holds."""
    return tuple([way for way, move in holding])


def look_at_motions(plate, motions):
    """Refuse what is no motions of the plate."""
    if not are_fractions(motions, ways_of(plate)):
        raise NoMotions("the motions are no tuple with a fraction for each way")


def look_at_loads(plate, loads):
    """Refuse what is no loads of the plate."""
    if not are_fractions(loads, ways_of(plate)):
        raise NoLoads("the loads are no tuple with a fraction for each way")


def look_at_holding(plate, holding):
    """Refuse what is no holding of the plate."""
    if not is_holding(plate, holding):
        raise NoHolding("the holding is no rising tuple of tuples (way, move)")


def look_at_ways(plate, held):
    """Refuse what is no held ways of the plate."""
    if not are_ways(plate, held):
        raise NoWays("the held ways are no rising tuple of ways")


def keeps(holding, motions):
    """Whether motions are, at each way of the holding, its move."""
    return all([motions[way] == move for way, move in holding])
