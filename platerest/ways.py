"""The ways of a plate, and what is told by them: motions, loads, holdings, held ways."""

from platerest.errors import NoHolding, NoLoads, NoMotions, NoWay, NoWays
from platerest.plates import are_rising, is_row
from platerest.quotients import are_fractions, is_fraction, is_whole


def ways_of(plate):
    """How many ways the plate has: two for each corner."""
    return 2 * len(plate[0])


def all_ways(plate):
    """The list of all ways."""
    return list(range(ways_of(plate)))


def others_of(known, taken):
    """The list of the known ones that aren't taken."""
    return [number for number in known if number not in taken]


def is_one_of(known, thing):
    """Whether the thing, whatever it is, is one of the known whole numbers."""
    return is_whole(thing) and thing in known


def are_some_of(known, thing):
    """Whether the thing, whatever it is, is a rising tuple of some of the known whole numbers, perhaps of none."""
    if not isinstance(thing, tuple) or not all([is_one_of(known, part) for part in thing]):
        return False
    return are_rising(thing)


def is_holding(known, thing):
    """Whether the thing, whatever it is, is a holding of some of the known ways."""
    if not isinstance(thing, tuple) or not all([is_row(part, 2, 2) for part in thing]):
        return False
    # Unlike ways of a rising tuple rise themselves, so the moves don't have to be compared.
    if not are_some_of(known, held_by(thing)):
        return False
    return all([is_fraction(move) for way, move in thing])


def held_by(holding):
    """The rising tuple of the ways that a holding holds."""
    return tuple([way for way, move in holding])


def loose_ways(plate, holding):
    """The list of the ways that a holding doesn't hold."""
    return others_of(all_ways(plate), held_by(holding))


def look_at_motions(plate, motions):
    """Refuse what is no motions of the plate."""
    if not are_fractions(motions, ways_of(plate)):
        raise NoMotions("the motions are no tuple with a fraction for each way")


def look_at_loads(plate, loads):
    """Refuse what is no loads of the plate."""
    if not are_fractions(loads, ways_of(plate)):
        raise NoLoads("the loads are no tuple with a fraction for each way")


def look_at_holding(plate, holding):
    """Refuse what is no holding of the plate."""
    if not is_holding(all_ways(plate), holding):
        raise NoHolding("the holding is no rising tuple of tuples (way, move)")


def look_at_ways(plate, held):
    """Refuse what is no held ways of the plate."""
    if not are_some_of(all_ways(plate), held):
        raise NoWays("the held ways are no rising tuple of ways")


def look_at_way(plate, way):
    """Refuse what is no way of the plate."""
    if not is_one_of(all_ways(plate), way):
        raise NoWay("that is no way")


def keeps(holding, motions):
    """Whether motions are, at each way of the holding, its move."""
    return all([motions[way] == move for way, move in holding])
