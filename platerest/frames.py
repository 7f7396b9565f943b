"""Frames: how some ways push by one another's motions, joined, and led to those of them that are kept."""

from platerest.errors import NoFrame, NoHolding, NoInner, NoLoads, NoLot, NoMotions, NoWays
from platerest.plates import look_at_plate
from platerest.quotients import are_fractions, is_fraction, levelled, mixed, product
from platerest.rows import settled_each
from platerest.strains import added, dot, piece_ways, push_table
from platerest.ways import are_some_of, held_by, is_holding, is_one_of, others_of

MOST_WAYS = 60


def is_table(thing, many):
    """Whether the thing, whatever it is, is so many tuples of so many fractions, the same the other way about."""
    if not isinstance(thing, tuple) or len(thing) != many:
        return False
    if not all([are_fractions(row, many) for row in thing]):
        return False
    return all([row == tuple([other[at] for other in thing]) for at, row in enumerate(thing)])


def is_frame(thing):
    """Whether the thing, whatever it is, is a frame."""
    if not isinstance(thing, tuple) or len(thing) != 3:
        return False
    ways, table, rights = thing
    if not are_some_of(list(range(MOST_WAYS)), ways):
        return False
    return is_table(table, len(ways)) and are_fractions(rights, len(ways))


def look_at_frame(frame):
    """Refuse what is no frame."""
    if not is_frame(frame):
        raise NoFrame("that is no frame")


def look_at_led(frame, kept):
    """Refuse what is no frame, then what is no rising tuple of some of its ways."""
    look_at_frame(frame)
    if not are_some_of(frame[0], kept):
        raise NoWays("the kept ways are no rising tuple of some of the frame's ways")


def are_loads_of(frame, thing):
    """Whether the thing, whatever it is, is a dict of some of the frame's ways, each with a fraction."""
    if not isinstance(thing, dict):
        return False
    return all([is_one_of(frame[0], way) and is_fraction(load) for way, load in thing.items()])


def table_of(frame):
    """The table of a frame, as a dict by two ways."""
    ways, table, rights = frame
    return {(way, other): part for way, row in zip(ways, table) for other, part in zip(ways, row)}


def rights_of(frame):
    """The rights of a frame, as a dict by ways."""
    return dict(zip(frame[0], frame[2]))


def together(dicts, key):
    """The sum of what the dicts have at the key, nought where none has it."""
    return added([parts[key] for parts in dicts if key in parts])


def frame_by(ways, tables, rights):
    """The frame of the ways, with all of the tables and all of the rights, which are dicts, added."""
    rows = [tuple([together(tables, (way, other)) for other in ways]) for way in ways]
    return (tuple(ways), tuple(rows), tuple([together(rights, way) for way in ways]))


def frame_of(plate, lot):
    """The frame of a lot of pieces."""
    look_at_plate(plate)
    if not are_some_of(list(range(len(plate[1]))), lot):
        raise NoLot("the lot is no rising tuple of numbers of pieces")
    ways = sorted({way for number in lot for way in piece_ways(plate, number)})
    return frame_by(ways, [push_table(plate, lot)], [])


def with_loads(frame, loads):
    """The frame with loads added to its rights."""
    look_at_frame(frame)
    if not are_loads_of(frame, loads):
        raise NoLoads("the loads are no dict of some of the frame's ways, each with a fraction")
    return frame_by(frame[0], [table_of(frame)], [rights_of(frame), loads])


def joined(one, other):
    """The frame with the ways of two frames, and what both have added."""
    look_at_frame(one)
    look_at_frame(other)
    ways = sorted(set(one[0]) | set(other[0]))
    return frame_by(ways, [table_of(one), table_of(other)], [rights_of(one), rights_of(other)])


def put_by(frame, kept, columns):
    """For each column of rights at the ways that aren't kept, which is a dict, what stands at these ways in order,
    the kept ones being nought; refused where they aren't put in one way alone."""
    inside = others_of(frame[0], kept)
    table = table_of(frame)
    rows = [tuple([table[(way, other)] for other in inside]) for way in inside]
    taken, found = settled_each(rows, [[column[way] for way in inside] for column in columns])
    if len(taken) < len(inside):
        raise NoInner("the ways that aren't kept aren't put in one way alone")
    return found


def led(frame, kept):
    """The frame that is left at the kept ways where each other way is put so that it is in balance."""
    look_at_led(frame, kept)
    inside = others_of(frame[0], kept)
    table = table_of(frame)
    rights = rights_of(frame)
    columns = [{way: table[(way, other)] for way in frame[0]} for other in kept] + [rights]
    found = [levelled(column) for column in put_by(frame, kept, columns)]
    rows = []
    for way in kept:
        weights, many = levelled([table[(way, other)] for other in inside])
        taken = [(dot(weights, tops), many * bottom) for tops, bottom in found]
        rows.append(tuple([mixed((1, -1), (column[way], part)) for column, part in zip(columns, taken)]))
    return (kept, tuple([row[:-1] for row in rows]), tuple([row[-1] for row in rows]))


def inner_by(frame, kept, motions):
    """What stands at the ways that aren't kept by motions at those that are; nothing is looked at but NoInner."""
    table = table_of(frame)
    rights = rights_of(frame)
    left = {}
    for way in others_of(frame[0], kept):
        moved = product([table[(way, other)] for other in kept], motions)
        left[way] = mixed((1, -1), (rights[way], moved))
    return put_by(frame, kept, [left])[0]


def inner(frame, kept, motions):
    """What stands, by motions at the kept ways, at the others, in order, where these are in balance."""
    look_at_led(frame, kept)
    if not are_fractions(motions, len(kept)):
        # Whether the others are put in one way alone hangs on no motions, and is refused ahead of them.
        put_by(frame, kept, [])
        raise NoMotions("the motions are no tuple with a fraction for each kept way")
    return inner_by(frame, kept, motions)


def frame_rest(frame, holding):
    """What stands at all ways of a frame where the holding is kept and each other way is in balance."""
    look_at_frame(frame)
    if not is_holding(frame[0], holding):
        raise NoHolding("the holding is no rising tuple of tuples (way, move) of the frame's ways")
    kept = held_by(holding)
    found = dict(holding)
    inside = others_of(frame[0], kept)
    found.update(dict(zip(inside, inner_by(frame, kept, tuple([move for way, move in holding])))))
    return tuple([found[way] for way in frame[0]])
