"""What the functions of plates, strains, frees and rests refuse, of which class, and in which order."""

import copy
import inspect
import unittest

from platerest import frees, plates, rests, strains
from platerest.errors import (
    NoHolding, NoLoads, NoMotions, NoPiece, NoPlate, NoRest, NoStresses, NoWays,
)
from tests.shapes import SQUARE, wholes
from tests.things import GREATEST, deep, no_fractions, no_wholes

HELD = (0, 1, 3)
HOLDING = ((0, (0, 1)), (1, (0, 1)), (3, (1, 2)))
LOADS = wholes(0, 0, 0, 0, 1, 0, 0, 2)
MOTIONS = wholes(1, 2, 3, 4, 5, 6, 7, 8)
STRESSES = (wholes(1, 2, 3), wholes(4, 5, 6))


def no_plates():
    found = no_wholes() + [0, GREATEST, list(SQUARE), SQUARE[:3], SQUARE + SQUARE[3:], MOTIONS]
    found += [SQUARE[:3] + ((1, 0),), SQUARE[:2] + ((1,),) + SQUARE[3:], (SQUARE[0], ((0, 1, 2),), (1,), (1, 1))]
    return found + [(SQUARE[0][:3] + ((1, 2),),) + SQUARE[1:2] + ((True, 1), (1, 1))]


def no_rows_of_eight():
    """Things of which none is a tuple of eight fractions."""
    found = [thing for thing in no_fractions() + no_wholes() + [0, 8, -1]]
    found += [MOTIONS[:7], MOTIONS + MOTIONS[:1], list(MOTIONS), (MOTIONS,), (1,) * 8, tuple([1, 1] for way in MOTIONS)]
    found += [MOTIONS[:at] + (thing,) + MOTIONS[at + 1:] for at in (0, 3, 7) for thing in no_fractions()]
    return found


def no_pieces():
    return no_wholes() + [-1, 2, 3, -GREATEST, GREATEST, (0,), "0"]


def no_stresses():
    found = no_fractions() + no_wholes() + [0, STRESSES[:1], STRESSES * 2, list(STRESSES), STRESSES[0]]
    found += [(STRESSES[0], list(STRESSES[1])), (STRESSES[0], STRESSES[1][:2]), (STRESSES[0] + ((1, 1),), STRESSES[1])]
    found += [(STRESSES[0], (thing,) + STRESSES[1][1:]) for thing in no_fractions()]
    found += [((STRESSES[0][:2] + (thing,)), STRESSES[1]) for thing in no_fractions()]
    found += [(thing, STRESSES[1]) for thing in no_fractions() + [()]]
    return found


def no_ways():
    found = [thing for thing in no_wholes() if thing not in ((), (1,))] + [0, 7, [0, 1], (1, 0), (0, 0), (1, 1, 2)]
    found += [(-1,), (8,), (0, 8), (-1, 0), (0, 1, GREATEST), (True,), (False, 1), (0, True), (0, 1, "2"), (None,)]
    return found + [(0, (1,)), ([0],), ({},), (deep(8),), (0, 2, 1), (7, 7), tuple(range(9)), (0, 1, 2, 2), range(3)]


def no_holdings():
    found = [thing for thing in no_wholes() if thing != ()] + [0, [(0, (0, 1))], (0, (0, 1)), ((0, 1),), ((0,),)]
    found += [(way,) for way in no_wholes()] + [((way, (0, 1)),) for way in no_wholes() + [-1, 8, GREATEST, -GREATEST]]
    found += [((0, move),) for move in no_fractions()] + [((0, (0, 1)), (1, move)) for move in no_fractions()]
    found += [([0, (0, 1)],), ((0, (0, 1), 0),), ((1, (0, 1)), (0, (0, 1))), ((0, (0, 1)), (0, (0, 1)))]
    found += [((0, (0, 1)), (0, (1, 1))), ((0, (1, 1)), (0, (0, 1))), ((0, (0, 1)), (7, (0, 1)), (8, (0, 1)))]
    return found + [((3, (0, 1)), (2, (5, 1))), ((True, (0, 1)),), ((0, (0, 1)), (True, (0, 1))), {0: (0, 1)}, HELD]


PLATE = ("plate", SQUARE, NoPlate, no_plates)
MOVED = ("motions", MOTIONS, NoMotions, no_rows_of_eight)
PIECE = ("piece", 1, NoPiece, no_pieces)
STRESSED = ("stresses", STRESSES, NoStresses, no_stresses)
KEPT = ("held", HELD, NoWays, no_ways)
HOLD = ("holding", HOLDING, NoHolding, no_holdings)
LOADED = ("loads", LOADS, NoLoads, no_rows_of_eight)
ANYTHING = ("thing", None, None, lambda: [])
REST = ("motions", None, NoRest, no_rows_of_eight)

# Each function with its arguments: name, something right, the refusal, and things that are refused.
CALLS = (
    (plates.sides, (PLATE,)), (plates.rim, (PLATE,)), (plates.parts, (PLATE,)), (plates.room, (PLATE,)),
    (strains.strain, (PLATE, MOVED, PIECE)), (strains.stress, (PLATE, MOVED, PIECE)),
    (strains.are_stresses, (PLATE, ANYTHING)), (strains.stresses, (PLATE, MOVED)),
    (strains.pushes, (PLATE, STRESSED)), (strains.worth_of, (PLATE, MOVED)), (strains.stress_worth, (PLATE, STRESSED)),
    (frees.is_free, (PLATE, KEPT, ANYTHING)), (frees.free_motions, (PLATE, KEPT)), (frees.free_ways, (PLATE, KEPT)),
    (frees.firm, (PLATE, KEPT)),
    (rests.is_rest, (PLATE, HOLD, LOADED, ANYTHING)), (rests.is_runaway, (PLATE, HOLD, LOADED, ANYTHING)),
    (rests.paper, (PLATE, HOLD, LOADED)), (rests.pulls, (PLATE, HOLD, LOADED, REST)),
)


class Refusals(unittest.TestCase):
    def refused(self, error, deed, handed):
        with self.assertRaises(error) as caught:
            deed(*handed)
        self.assertIs(type(caught.exception), error)

    def test_each_argument(self):
        for deed, arguments in CALLS:
            right = [good for name, good, error, wrongs in arguments]
            for at, (name, good, error, wrongs) in enumerate(arguments):
                for thing in wrongs():
                    self.refused(error, deed, right[:at] + [thing] + right[at + 1:])

    def test_the_first_wrong_argument_goes_first(self):
        for deed, arguments in CALLS:
            right = [good for name, good, error, wrongs in arguments]
            for at, (name, good, error, wrongs) in enumerate(arguments):
                for thing in wrongs()[:30]:
                    for other in (None, 7, (), "a", [1], wholes(1, 2)):
                        self.refused(error, deed, right[:at] + [thing] + [other] * (len(right) - at - 1))

    def test_things_hang_on_the_plate(self):
        small = (SQUARE[0][:3], ((0, 1, 2),), (1,), (1, 1))
        self.refused(NoMotions, strains.stresses, (small, MOTIONS))
        self.assertEqual(len(strains.stresses(small, MOTIONS[:6])), 1)
        self.refused(NoPiece, strains.strain, (small, MOTIONS[:6], 1))
        self.refused(NoStresses, strains.pushes, (small, STRESSES))
        self.refused(NoWays, frees.free_ways, (small, (6,)))
        self.assertEqual(frees.free_ways(small, (5,)), (3, 4))
        self.refused(NoHolding, rests.paper, (small, ((6, (0, 1)),), LOADS[:6]))
        self.refused(NoLoads, rests.paper, (small, ((5, (0, 1)),), LOADS))

    def test_what_is_handed_in_stays_as_it_was(self):
        for deed, arguments in CALLS:
            right = [good for name, good, error, wrongs in arguments]
            for at, (name, good, error, wrongs) in enumerate(arguments):
                things = wrongs()
                kept = repr(copy.deepcopy(things))
                for thing in things:
                    self.refused(error, deed, right[:at] + [thing] + right[at + 1:])
                self.assertEqual(repr(things), kept)

    def test_names_and_defaults(self):
        for deed, arguments in CALLS:
            parameters = inspect.signature(deed).parameters
            self.assertEqual(list(parameters), [name for name, good, error, wrongs in arguments])
            for name, parameter in parameters.items():
                self.assertIs(parameter.kind, inspect.Parameter.POSITIONAL_OR_KEYWORD)
                defaulted = deed in (frees.free_motions, frees.free_ways, frees.firm) and name == "held"
                self.assertEqual(parameter.default, () if defaulted else inspect.Parameter.empty)

    def test_by_names(self):
        for deed, arguments in CALLS:
            named = {name: good for name, good, error, wrongs in arguments}
            if deed is rests.pulls:
                named["motions"] = rests.paper(SQUARE, HOLDING, LOADS)[1]
            backwards = dict(reversed(list(named.items())))
            self.assertEqual(deed(**backwards), deed(*named.values()))

    def test_the_same_asked_again_is_told_alike(self):
        for deed, arguments in CALLS:
            right = [good for name, good, error, wrongs in arguments]
            if deed is rests.pulls:
                right[-1] = rests.paper(SQUARE, HOLDING, LOADS)[1]
            told = deed(*right)
            again = deed(*copy.deepcopy(right))
            self.assertEqual(repr(told), repr(again))
            if isinstance(told, list):
                told.clear()
                self.assertEqual(repr(deed(*right)), repr(again))


if __name__ == "__main__":
    unittest.main()
