"""Things of which none is what a function asks for, and right ones beside them: all of the plate SQUARE."""

from platerest.rests import paper
from tests.shapes import SQUARE, wholes
from tests.things import GREATEST, deep, no_fractions, no_wholes

HELD = (0, 1, 3)
HOLDING = ((0, (0, 1)), (1, (0, 1)), (3, (1, 2)))
LOADS = wholes(0, 0, 0, 0, 1, 0, 0, 2)
MOTIONS = wholes(1, 2, 3, 4, 5, 6, 7, 8)
# Motions that keep the holding.
KEEPING = wholes(0, 0, 3) + ((1, 2),) + wholes(5, 6, 7, 8)
REST = paper(SQUARE, HOLDING, LOADS)[1]
CASE = (HOLDING, LOADS, REST)
STRESSES = (wholes(1, 2, 3), wholes(4, 5, 6))
FRAME = ((0, 2, 5), (wholes(2, -1, 0), wholes(-1, 3, 1), wholes(0, 1, 5)), wholes(1, 0, -2))
TURNING = ((0, 2, 1, 3), (0, 1, 1, 0))


def no_plates():
    found = no_wholes() + [0, GREATEST, list(SQUARE), SQUARE[:3], SQUARE + SQUARE[3:], MOTIONS]
    found += [SQUARE[:3] + ((1, 0),), SQUARE[:2] + ((1,),) + SQUARE[3:], (SQUARE[0], ((0, 1, 2),), (1,), (1, 1))]
    return found + [(SQUARE[0][:3] + ((1, 2),),) + SQUARE[1:2] + ((True, 1), (1, 1))]


def no_rows_of_eight():
    """Things of which none is a tuple of eight fractions."""
    found = [thing for thing in no_fractions() + no_wholes() + [0, 8, -1]]
    found += [MOTIONS[:7], MOTIONS + MOTIONS[:1], list(MOTIONS), (MOTIONS,), (1,) * 8, tuple([1, 1] for way in MOTIONS)]
    found += [MOTIONS[:at] + (thing,) + MOTIONS[at + 1:] for at in (0, 3, 7) for thing in no_fractions()]
    return found


def no_pieces():
    return no_wholes() + [-1, 2, 3, -GREATEST, GREATEST, (0,), "0"]


def no_stresses():
    found = no_fractions() + no_wholes() + [0, STRESSES[:1], STRESSES * 2, list(STRESSES), STRESSES[0]]
    found += [(STRESSES[0], list(STRESSES[1])), (STRESSES[0], STRESSES[1][:2]), (STRESSES[0] + ((1, 1),), STRESSES[1])]
    found += [(STRESSES[0], (thing,) + STRESSES[1][1:]) for thing in no_fractions()]
    found += [((STRESSES[0][:2] + (thing,)), STRESSES[1]) for thing in no_fractions()]
    found += [(thing, STRESSES[1]) for thing in no_fractions() + [()]]
    return found


def no_ways():
    found = [thing for thing in no_wholes() if thing not in ((), (1,))] + [0, 7, [0, 1], (1, 0), (0, 0), (1, 1, 2)]
    found += [(-1,), (8,), (0, 8), (-1, 0), (0, 1, GREATEST), (True,), (False, 1), (0, True), (0, 1, "2"), (None,)]
    return found + [(0, (1,)), ([0],), ({},), (deep(8),), (0, 2, 1), (7, 7), tuple(range(9)), (0, 1, 2, 2), range(3)]


def no_holdings():
    found = [thing for thing in no_wholes() if thing != ()] + [0, [(0, (0, 1))], (0, (0, 1)), ((0, 1),), ((0,),)]
    found += [(way,) for way in no_wholes()] + [((way, (0, 1)),) for way in no_wholes() + [-1, 8, GREATEST, -GREATEST]]
    found += [((0, move),) for move in no_fractions()] + [((0, (0, 1)), (1, move)) for move in no_fractions()]
    found += [([0, (0, 1)],), ((0, (0, 1), 0),), ((1, (0, 1)), (0, (0, 1))), ((0, (0, 1)), (0, (0, 1)))]
    found += [((0, (0, 1)), (0, (1, 1))), ((0, (1, 1)), (0, (0, 1))), ((0, (0, 1)), (7, (0, 1)), (8, (0, 1)))]
    return found + [((3, (0, 1)), (2, (5, 1))), ((True, (0, 1)),), ((0, (0, 1)), (True, (0, 1))), {0: (0, 1)}, HELD]


def no_loose_ways():
    """Things of which none is the number of a way that HOLDING leaves loose."""
    return no_ways_at_all() + list(HELD)


def no_rounds():
    return no_wholes() + [-1, 10, 11, -GREATEST, GREATEST, (1,), "1", (1, 1)]


def unkept():
    """Motions that don't keep HOLDING."""
    return [KEEPING[:way] + (move,) + KEEPING[way + 1:] for way in HELD for move in ((7, 1), (-1, 2), (1, GREATEST))]


def no_frames():
    ways, table, rights = FRAME
    found = no_wholes() + no_fractions() + [0, 3, FRAME[:2], FRAME + ((),), list(FRAME), (FRAME,), SQUARE]
    found += [(thing, table, rights) for thing in no_wholes() + [3, list(ways), ways[:2], ways + (9,)]]
    found += [((2, 0, 5), table, rights), ((0, 0, 5), table, rights), ((0, 2, 60), table, rights)]
    found += [((-1, 2, 5), table, rights), ((0, True, 5), table, rights), (("0", 2, 5), table, rights)]
    found += [(ways, thing, rights) for thing in no_wholes() + no_fractions()]
    found += [(ways, table[:2], rights), (ways, table + table[:1], rights), (ways, list(table), rights)]
    found += [(ways, (list(table[0]),) + table[1:], rights), (ways, (table[0][:2],) + table[1:], rights)]
    found += [(ways, (table[0] + ((1, 1),),) + table[1:], rights)]
    # Not the same the other way about, at one place alone.
    found += [(ways, (table[0][:1] + ((9, 1),) + table[0][2:],) + table[1:], rights)]
    found += [(ways, table[:2] + (((9, 1),) + table[2][1:],), rights)]
    for thing in no_fractions():
        found += [(ways, ((thing,) + table[0][1:],) + table[1:], rights)]
        found += [(ways, table[:2] + (table[2][:2] + (thing,),), rights)]
        found += [(ways, table, (thing,) + rights[1:]), (ways, table, rights[:2] + (thing,)), (ways, table, thing)]
    found += [(ways, table, rights[:2]), (ways, table, rights + rights[:1]), (ways, table, list(rights))]
    found += [((), (), ((1, 1),)), ((), ((),), ()), ((1,), (), ((1, 1),)), ((), [], ()), ((), (), {})]
    many = tuple(range(61))
    return found + [(many, ((((1, 1),) * 61),) * 61, ((1, 1),) * 61)]


def no_lots():
    found = [thing for thing in no_wholes() if thing not in ((), (1,))] + [0, 1, [0], (1, 0), (0, 0), (0, 1, 1)]
    found += [(-1,), (2,), (0, 2), (0, GREATEST), (True,), (0, True), (False, 1), ("0",), (None,), ((0,),), ([0],)]
    return found + [{0: 1}, ({},), (0, 1, 2), (deep(8),)]


def no_dict_loads():
    """Things of which none is loads of FRAME."""
    found = [thing for thing in no_wholes() + no_fractions() if thing != {}] + [0, [(0, (1, 1))], ((0, (1, 1)),)]
    found += [{way: (1, 1)} for way in (1, 3, -1, 6, 60, GREATEST, True, False, None, "0", (0,), (), (0, 2))]
    found += [{0: thing} for thing in no_fractions()] + [{2: (1, 1), 5: thing} for thing in no_fractions()]
    return found + [{0: (1, 1), 2: (1, 1), 5: (1, 1), 7: (1, 1)}, {0: (1, 1), "2": (1, 1)}]


def no_kept():
    """Things of which none is a rising tuple of some of the ways of FRAME."""
    found = [thing for thing in no_wholes() if thing != ()] + [0, [0], (2, 0), (0, 0), (1,), (0, 1), (3,), (0, 2, 3)]
    found += [(-1,), (60,), (0, 5, 6), (True,), (False,), (False, 2), (0, True), ("0",), (None,), ((0,),), ([0],)]
    return found + [{0: 2}, ({},), (0, 2, 2), (0, GREATEST), (deep(8),), (5, 2), (0, 2, 5, 5)]


def no_frame_holdings():
    found = [thing for thing in no_wholes() if thing != ()] + [0, [(0, (1, 1))], {0: (1, 1)}, (0, (1, 1)), ((0,),)]
    found += [((way, (1, 1)),) for way in no_wholes() + [1, 3, 4, -1, 6, 60, GREATEST]]
    found += [((0, move),) for move in no_fractions()] + [((0, (1, 1)), (5, move)) for move in no_fractions()]
    found += [([0, (1, 1)],), ((0, (1, 1), 1),), ((2, (1, 1)), (0, (1, 1))), ((0, (1, 1)), (0, (2, 1))), (0, 2)]
    return found + [((False, (1, 1)),), ((0, (1, 1)), (1, (1, 1))), ((2, (0, 1)), (0, (5, 1)))]


def no_two_fractions():
    """Things of which none is a tuple of two fractions."""
    found = [thing for thing in no_fractions() + no_wholes() if thing != ((1, 1), (1, 1))]
    found += [0, MOTIONS[:1], MOTIONS[:3], list(MOTIONS[:2]), {0: (1, 1), 1: (1, 1)}]
    return found + [(thing, (1, 1)) for thing in no_fractions()] + [((1, 1), thing) for thing in no_fractions()]


def no_turnings():
    """Things of which none is a turning of SQUARE."""
    same, other = (0, 1, 2, 3), (0, 2, 1, 3)
    found = no_wholes() + no_fractions() + [0, (same,), (same, (1, 0, 0, 1), 0), [same, (1, 0, 0, 1)], TURNING[0]]
    found += [(thing, (1, 0, 0, 1)) for thing in no_wholes() + no_fractions() + [list(same), same[:3], same + (4,)]]
    found += [(same, thing) for thing in no_wholes() + no_fractions() + [[1, 0, 0, 1], (1, 0, 0), (1, 0, 0, 1, 0)]]
    found += [(same, (0, 1, 1, 0)), (other, (1, 0, 0, 1)), (same, (1, 0, 0, -1)), (same, (0, 0, 0, 0))]
    # These lead the corners to one another, but the pieces to one of another thickness, or to none.
    found += [((3, 2, 1, 0), (-1, 0, 0, -1)), ((3, 1, 2, 0), (0, -1, -1, 0)), ((1, 0, 3, 2), (-1, 0, 0, 1))]
    found += [((2, 3, 0, 1), (1, 0, 0, -1)), ((1, 3, 0, 2), (0, -1, 1, 0)), ((2, 0, 3, 1), (0, 1, -1, 0))]
    found += [(same, (1, 1, 0, 0)), (same, (1, 0, 1, 0)), (same, (2, 0, 0, 1)), (same, (1, 0, 0, 2)), (same, same)]
    # True is equal to 1, and False to 0, but neither is a whole number.
    found += [((0, True, 2, 3), (1, 0, 0, 1)), ((False, 1, 2, 3), (1, 0, 0, 1)), (same, (True, 0, 0, 1))]
    found += [(same, (1, 0, 0, True)), (same, (1, False, 0, 1)), (same, (1, 0, False, 1)), (other, (0, True, 1, 0))]
    return found + [((0, 0, 0, 0), (1, 0, 0, 1)), ((0, 1, 2, GREATEST), (1, 0, 0, 1)), ((-4, -3, -2, -1), (1, 0, 0, 1))]


def no_ways_at_all():
    """Things of which none is the number of a way."""
    return no_wholes() + [-1, 8, 9, -GREATEST, GREATEST, (2,), "2", (0, 1)]


def no_load_cases():
    """Things of which none is a load case."""
    found = no_wholes() + no_fractions() + [0, CASE[:2], CASE + ((),), list(CASE), (CASE,), SQUARE, FRAME]
    found += [(thing, LOADS, REST) for thing in no_holdings()]
    found += [(HOLDING, thing, REST) for thing in no_rows_of_eight()]
    found += [(HOLDING, LOADS, thing) for thing in no_rows_of_eight() + [MOTIONS, KEEPING]]
    # The motions are no rest of other moves, of other loads, or where a way is let go; a load at a held way is one.
    found += [(((0, (0, 1)), (1, (0, 1)), (3, (1, 3))), LOADS, REST), (HOLDING[:2], LOADS, REST)]
    return found + [(HOLDING, LOADS[:7] + ((3, 1),), REST), (HOLDING, LOADS[:2] + ((1, 1),) + LOADS[3:], REST)]


def no_thicks():
    return no_wholes() + [0, 10, 11, -1, -9, GREATEST, -GREATEST, (1,), "1", (1, 1)]


def no_fraction_rows():
    """Things of which none is a tuple of fractions."""
    found = [thing for thing in no_fractions() if thing not in ((), ((1, 1), (1, 1)))]
    found += [[], [(1, 1)], {}, {0: (1, 1)}, "", "1 2", 0, (1, 1), (0, 1), ((1, 1), 1), ((1, 1), None)]
    return found + [((1, 1), thing) for thing in no_fractions()] + [(thing,) for thing in no_fractions()]


def no_fraction_texts():
    """Texts of which none is a fraction as it is written."""
    found = ["", " ", "-", "--1", "-0", "00", "01", "-01", "+1", "1.", "1.0", "1e3", "a", "0x1", "1_0", "1,5", "1 "]
    found += [" 1", "1/1", "-3/1", "0/1", "0/2", "2/4", "-2/4", "1/0", "0/0", "1/-2", "-1/-2", "1//2", "1/2/3", "/"]
    found += ["/2", "1/", "1 /2", "1/ 2", "1/02", "01/2", "1/+2", "-/2", "1\n", "\n1", "1\t2", "1/2\n", "1\n/2", "1 2"]
    found += ["1/2 3", "- 1"]
    return found + ["nought", "None", "True", "(1, 2)", "6/3", "~" * 3000, "1" * 2999 + "a", "3/2" * 2, "0" * 3000]


def no_row_texts():
    """Texts of which none is a row of fractions as it is written."""
    found = [text for text in no_fraction_texts() if text not in ("-", "1 2", "1/2 3")]
    found += ["1  2", " 1 2", "1 2 ", "1 -", "- 1", "- -", "1 2/4", "1,2", "1\t2", "1\n2", "0 -0", "1 2 03", "  "]
    return found
