"""Rests, in which all is in balance, and runaways, which nothing hinders and on which the loads work."""

from platerest.errors import NoRest
from platerest.frees import free_steps, is_free_of, motions_to, ways_without_step
from platerest.plates import look_at_plate
from platerest.quotients import NOUGHT, are_fractions, mixed
from platerest.rows import comes_to_nought, settled, whole
from platerest.strains import push_table, pushes_by
from platerest.ways import held_by, keeps, look_at_holding, look_at_loads, loose_ways, others_of, ways_of


def look_at_case(plate, holding, loads):
    """Refuse what is no plate, then what is no holding of it, then what is no loads of it."""
    look_at_plate(plate)
    look_at_holding(plate, holding)
    look_at_loads(plate, loads)


def loads_work(loads, motions):
    """Whether the sum of load times motion over all ways isn't nought."""
    return not comes_to_nought(whole(motions), loads)


def differences(ones, others, ways):
    """The fractions of the first ones less those of the others, at the ways."""
    return [mixed((1, -1), (ones[way], others[way])) for way in ways]


def rows_of(plate, loose):
    """For each of the loose ways the row of what its push is by a motion of 1 at each of them."""
    table = push_table(plate, list(range(len(plate[1]))))
    return [tuple([table.get((way, other), NOUGHT) for other in loose]) for way in loose]


def rest_of(plate, holding, loads, frees):
    """The rest that is nought at the free ways, where the loads work on no free motion."""
    motions = [NOUGHT] * ways_of(plate)
    for way, move in holding:
        motions[way] = move
    loose = others_of(loose_ways(plate, holding), frees)
    # What the held ways' moves push alone is there already, so the others' motions push but the rest of the loads.
    rights = differences(loads, pushes_by(plate, motions), loose)
    for way, motion in zip(loose, settled(rows_of(plate, loose), rights)[1]):
        motions[way] = motion
    return tuple(motions)


def paper_of(plate, holding, loads):
    """The paper; nothing is looked at."""
    steps = free_steps(plate, held_by(holding))
    frees = ways_without_step(plate, steps)
    for way in frees:
        motions = motions_to(plate, steps, way)
        if loads_work(loads, motions):
            return ("none", motions)
    return ("rest", rest_of(plate, holding, loads, frees))


def rest_told(plate, holding, loads):
    """The rest of the paper; refused where there is none."""
    word, motions = paper_of(plate, holding, loads)
    if word == "none":
        raise NoRest("there is no rest")
    return motions


def is_balanced(plate, holding, loads, given):
    """Whether pushes are the loads at each way that isn't held."""
    return all([given[way] == loads[way] for way in loose_ways(plate, holding)])


def is_rest_of(plate, holding, loads, thing):
    """Whether the thing, whatever it is, is a rest; all else isn't looked at."""
    if not are_fractions(thing, ways_of(plate)) or not keeps(holding, thing):
        return False
    return is_balanced(plate, holding, loads, pushes_by(plate, thing))


def is_rest(plate, holding, loads, thing):
    """Whether the thing, whatever it is, is a rest."""
    look_at_case(plate, holding, loads)
    return is_rest_of(plate, holding, loads, thing)


def is_runaway(plate, holding, loads, thing):
    """Whether the thing, whatever it is, is a free motion of the held ways on which the loads work."""
    look_at_case(plate, holding, loads)
    return is_free_of(plate, held_by(holding), thing) and loads_work(loads, thing)


def paper(plate, holding, loads):
    """("rest", motions), or ("none", motions) with a runaway where there is no rest."""
    look_at_case(plate, holding, loads)
    return paper_of(plate, holding, loads)


def pulls_by(plate, holding, loads, motions):
    """The pulls by motions that are a rest; nothing is looked at."""
    return tuple(differences(pushes_by(plate, motions), loads, held_by(holding)))


def pulls(plate, holding, loads, motions):
    """For each way of the holding the push there, by motions that are a rest, less the load there."""
    look_at_case(plate, holding, loads)
    if not is_rest_of(plate, holding, loads, motions):
        raise NoRest("the motions are no rest")
    return pulls_by(plate, holding, loads, motions)
