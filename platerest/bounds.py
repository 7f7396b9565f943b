"""What motions are worth from above and stresses from below, the worth of the rest between, and steps towards it."""

from platerest.errors import NoBalance, NoMotions, NoRounds, NoWay
from platerest.plates import is_between
from platerest.quotients import levelled, mixed, product
from platerest.rests import differences, is_balanced, look_at_case, rest_told
from platerest.rows import factors_of, lowered
from platerest.strains import look_at_stresses, push_table, pushes_of, stress_worth_of, worth_by
from platerest.ways import all_ways, held_by, is_one_of, keeps, look_at_motions, loose_ways

MOST_ROUNDS = 9


def look_at_kept(plate, holding, loads, motions):
    """Refuse what is no case of a plate, a holding and loads, then what is no motions that keep the holding."""
    look_at_case(plate, holding, loads)
    look_at_motions(plate, motions)
    if not keeps(holding, motions):
        raise NoMotions("the motions don't keep the holding")


def above_by(plate, loads, motions):
    """What motions are worth from above; nothing is looked at."""
    return mixed((1, -1), (worth_by(plate, motions), product(loads, motions)))


def worth_told(plate, holding, loads):
    """The worth of the rest; nothing is looked at, but refused where there is no rest."""
    return above_by(plate, loads, rest_told(plate, holding, loads))


def above(plate, holding, loads, motions):
    """What motions that keep the holding are worth from above."""
    look_at_kept(plate, holding, loads, motions)
    return above_by(plate, loads, motions)


def below(plate, holding, loads, stresses):
    """What balanced stresses are worth from below."""
    look_at_case(plate, holding, loads)
    look_at_stresses(plate, stresses)
    given = pushes_of(plate, stresses)
    if not is_balanced(plate, holding, loads, given):
        raise NoBalance("the pushes aren't the loads at each way that isn't held")
    moves = [move for way, move in holding]
    moved = product(moves, differences(given, loads, held_by(holding)))
    return mixed((1, -1), (moved, stress_worth_of(plate, stresses)))


def worth(plate, holding, loads):
    """What any rest is worth from above."""
    look_at_case(plate, holding, loads)
    return worth_told(plate, holding, loads)


def gap(plate, holding, loads, motions):
    """What motions that keep the holding are worth from above less the worth of the rest."""
    look_at_kept(plate, holding, loads, motions)
    return mixed((1, -1), (above_by(plate, loads, motions), worth_told(plate, holding, loads)))


def push_rows(plate):
    """For each way a dict, by the others, of whole numbers: how the push there comes of their motions, times a
    whole number, and that number."""
    found = [{} for way in all_ways(plate)]
    for (way, other), push in push_table(plate, list(range(len(plate[1])))).items():
        found[way][other] = push
    told = []
    for row in found:
        tops, many = levelled(list(row.values()))
        told.append((dict(zip(list(row), tops)), many))
    return told


def walked(plate, loads, motions, ways):
    """The motions behind a step at each of the ways, one after the other.

    What is worth least at a way is that by which its push is its load. All motions stand over one bottom, which
    each step makes greater by one factor: so divisors are looked for at the end alone, factor by factor.
    """
    rows = push_rows(plate)
    parts = motions + loads
    tops = levelled(parts)[0]
    loaded = tops[len(motions):]
    here = tops[:len(motions)]
    factors = factors_of([bottom for top, bottom in parts])
    grown = 1
    for way in ways:
        row, many = rows[way]
        others = sum([part * here[other] for other, part in row.items() if other != way])
        # One corner moved alone strains its pieces, so this is greater than 0.
        own = row[way]
        put = many * loaded[way] * grown - others
        here = [own * top for top in here]
        here[way] = put
        grown *= own
        factors.append(own)
    told = [lowered((top, 1), factors) if way in ways else motions[way] for way, top in enumerate(here)]
    return tuple(told)


def step(plate, holding, loads, motions, way):
    """The motions with that at the way which is worth least from above there."""
    look_at_kept(plate, holding, loads, motions)
    if not is_one_of(loose_ways(plate, holding), way):
        raise NoWay("that is no way that isn't held")
    return walked(plate, loads, motions, [way])


def swept(plate, holding, loads, motions, *, rounds=1):
    """The motions behind so many rounds of steps at all ways that aren't held, in order."""
    look_at_kept(plate, holding, loads, motions)
    if not is_between(rounds, 0, MOST_ROUNDS):
        raise NoRounds("that is no whole number from 0 to 9")
    return walked(plate, loads, motions, loose_ways(plate, holding) * rounds)
