"""What the functions of the program refuse, of which class, and in which order; and how they are called."""

import copy
import inspect
import unittest

from platerest import bounds, finer, frames, frees, plates, rests, strains, sums, texts, turnings
from platerest.errors import (
    NoFraction, NoFrame, NoHolding, NoLoads, NoLot, NoMotions, NoPiece, NoPlate, NoRest, NoRounds, NoStresses, NoText,
    NoThick, NoTurning, NoWay, NoWays,
)
from tests import wrongs
from tests.shapes import SQUARE, wholes
from tests.things import no_fractions, no_wholes
from tests.wrongs import FRAME, HELD, HOLDING, KEEPING, LOADS, MOTIONS, REST, STRESSES, TURNING


def no_texts():
    return [thing for thing in no_wholes() if not isinstance(thing, str)] + [0, 1, (1, 2)]


# Arguments: name, something right, the refusal, and things that are refused.
PLATE = ("plate", SQUARE, NoPlate, wrongs.no_plates)
MOVED = ("motions", MOTIONS, NoMotions, wrongs.no_rows_of_eight)
PIECE = ("piece", 1, NoPiece, wrongs.no_pieces)
STRESSED = ("stresses", STRESSES, NoStresses, wrongs.no_stresses)
HOLD = ("holding", HOLDING, NoHolding, wrongs.no_holdings)
LOADED = ("loads", LOADS, NoLoads, wrongs.no_rows_of_eight)
WAYS = ("held", HELD, NoWays, wrongs.no_ways)
ANYTHING = ("thing", None, None, list)
RESTING = ("motions", REST, NoRest, wrongs.no_rows_of_eight)
HELD_SO = (PLATE, HOLD, LOADED)
KEPT = ("motions", KEEPING, NoMotions, lambda: wrongs.no_rows_of_eight() + wrongs.unkept())
BALANCED = ("stresses", strains.stresses(SQUARE, REST), NoStresses, wrongs.no_stresses)
LOOSE = ("way", 6, NoWay, wrongs.no_loose_ways)
ROUNDS = ("rounds", 2, NoRounds, wrongs.no_rounds)
LED = ("frame", FRAME, NoFrame, wrongs.no_frames)
KEPT_WAYS = ("kept", (0, 5), NoWays, wrongs.no_kept)
ANY_WAY = (6, NoWay, wrongs.no_ways_at_all)
LOAD_CASE = (wrongs.CASE, NoRest, wrongs.no_load_cases)
WEIGHT = ((-2, 3), NoFraction, no_fractions)

CALLS = (
    (plates.sides, (PLATE,)), (plates.rim, (PLATE,)), (plates.parts, (PLATE,)), (plates.room, (PLATE,)),
    (strains.strain, (PLATE, MOVED, PIECE)), (strains.stress, (PLATE, MOVED, PIECE)),
    (strains.are_stresses, (PLATE, ANYTHING)), (strains.stresses, (PLATE, MOVED)),
    (strains.pushes, (PLATE, STRESSED)), (strains.worth_of, (PLATE, MOVED)), (strains.stress_worth, (PLATE, STRESSED)),
    (frees.is_free, (PLATE, WAYS, ANYTHING)), (frees.free_motions, (PLATE, WAYS)), (frees.free_ways, (PLATE, WAYS)),
    (frees.firm, (PLATE, WAYS)),
    (rests.is_rest, HELD_SO + (ANYTHING,)), (rests.is_runaway, HELD_SO + (ANYTHING,)),
    (rests.paper, HELD_SO), (rests.pulls, HELD_SO + (RESTING,)),
    (bounds.above, HELD_SO + (KEPT,)), (bounds.below, HELD_SO + (BALANCED,)), (bounds.worth, HELD_SO),
    (bounds.gap, HELD_SO + (KEPT,)), (bounds.step, HELD_SO + (KEPT, LOOSE)), (bounds.swept, HELD_SO + (KEPT, ROUNDS)),
    (frames.frame_of, (PLATE, ("lot", (0, 1), NoLot, wrongs.no_lots))),
    (frames.with_loads, (LED, ("loads", {0: (1, 2), 5: (-1, 1)}, NoLoads, wrongs.no_dict_loads))),
    (frames.joined, (("one",) + LED[1:], ("other",) + LED[1:])), (frames.led, (LED, KEPT_WAYS)),
    (frames.inner, (LED, KEPT_WAYS, ("motions", MOTIONS[:2], NoMotions, wrongs.no_two_fractions))),
    (frames.frame_rest, (LED, ("holding", ((2, (1, 2)),), NoHolding, wrongs.no_frame_holdings))),
    (finer.finer, (PLATE,)), (finer.carried, (PLATE, MOVED)), (finer.loads_over, (PLATE, LOADED)),
    (turnings.is_turning, (PLATE, ANYTHING)), (turnings.turnings, (PLATE,)), (turnings.even, (PLATE, MOVED)),
    (turnings.turned, (PLATE, ("turning", TURNING, NoTurning, wrongs.no_turnings), MOVED)),
    (sums.influence, (PLATE, WAYS, ("way",) + ANY_WAY, ("other",) + ANY_WAY)),
    (sums.influences, (PLATE, WAYS)), (sums.thickened, (PLATE, PIECE, ("thick", 7, NoThick, wrongs.no_thicks))),
    (sums.summed, (PLATE, ("one",) + LOAD_CASE, ("other",) + LOAD_CASE, ("first",) + WEIGHT, ("second",) + WEIGHT)),
    (texts.fraction_text, (("fraction", (-3, 4), NoFraction, no_fractions),)), (texts.plate_text, (PLATE,)),
    (texts.row_text, (("row", MOTIONS, NoFraction, wrongs.no_fraction_rows),)),
    (texts.read_fraction, (("text", "-3/4", NoText, no_texts),)),
    (texts.read_row, (("text", "1 -3/4", NoText, no_texts),)),
    (texts.read_plate, (("text", texts.plate_text(SQUARE), NoText, no_texts),)),
)
DEFAULTS = {
    (frees.free_motions, "held"): (), (frees.free_ways, "held"): (), (frees.firm, "held"): (),
    (bounds.swept, "rounds"): 1, (sums.summed, "first"): (1, 1), (sums.summed, "second"): (1, 1),
}
# These are handed in by their names alone.
STARRED = ("rounds", "first", "second")


def asked(deed, arguments, handed):
    """What a function tells of things by their places, or by their names where it is to be so."""
    names = [argument[0] for argument in arguments]
    named = {name: thing for name, thing in zip(names, handed) if name in STARRED}
    return deed(*[thing for name, thing in zip(names, handed) if name not in STARRED], **named)


def rights(arguments):
    return [argument[1] for argument in arguments]


class Refusals(unittest.TestCase):
    def refused(self, error, deed, arguments, handed):
        with self.assertRaises(error) as caught:
            asked(deed, arguments, handed)
        self.assertIs(type(caught.exception), error)

    def each_wrong(self):
        """Each function with each of its arguments wrong in turn."""
        for deed, arguments in CALLS:
            for at, (name, good, error, things) in enumerate(arguments):
                yield deed, arguments, at, error, things()

    def test_each_argument(self):
        for deed, arguments, at, error, things in self.each_wrong():
            right = rights(arguments)
            for thing in things:
                self.refused(error, deed, arguments, right[:at] + [thing] + right[at + 1:])

    def test_the_first_wrong_argument_goes_first(self):
        for deed, arguments, at, error, things in self.each_wrong():
            right = rights(arguments)
            for thing in things[:30]:
                for other in (None, 7, (), "a", [1], wholes(1, 2)):
                    self.refused(error, deed, arguments, right[:at] + [thing] + [other] * (len(right) - at - 1))

    def test_things_hang_on_the_plate(self):
        small = (SQUARE[0][:3], ((0, 1, 2),), (1,), (1, 1))
        self.assertEqual(len(strains.stresses(small, MOTIONS[:6])), 1)
        self.assertEqual(frees.free_ways(small, (5,)), (3, 4))
        for error, deed, handed in (
            (NoMotions, strains.stresses, (small, MOTIONS)), (NoPiece, strains.strain, (small, MOTIONS[:6], 1)),
            (NoStresses, strains.pushes, (small, STRESSES)), (NoWays, frees.free_ways, (small, (6,))),
            (NoHolding, rests.paper, (small, ((6, (0, 1)),), LOADS[:6])),
            (NoLoads, rests.paper, (small, ((5, (0, 1)),), LOADS)),
            (NoMotions, bounds.above, (small, (), LOADS[:6], MOTIONS)),
            (NoWay, bounds.step, (small, (), LOADS[:6], MOTIONS[:6], 6)), (NoLot, frames.frame_of, (small, (1,))),
            (NoMotions, finer.carried, (small, MOTIONS)), (NoLoads, finer.loads_over, (small, LOADS)),
            (NoTurning, turnings.turned, (small, TURNING, MOTIONS[:6])), (NoMotions, turnings.even, (small, MOTIONS)),
        ):
            with self.assertRaises(error) as caught:
                deed(*handed)
            self.assertIs(type(caught.exception), error)

    def test_what_is_handed_in_stays_as_it_was(self):
        for deed, arguments, at, error, things in self.each_wrong():
            right = rights(arguments)
            kept = repr(copy.deepcopy(things)), repr(copy.deepcopy(right))
            for thing in things:
                self.refused(error, deed, arguments, right[:at] + [thing] + right[at + 1:])
            asked(deed, arguments, right)
            self.assertEqual((repr(things), repr(right)), kept)

    def test_names_and_defaults(self):
        for deed, arguments in CALLS:
            parameters = inspect.signature(deed).parameters
            self.assertEqual(list(parameters), [argument[0] for argument in arguments])
            for name, parameter in parameters.items():
                starred = inspect.Parameter.KEYWORD_ONLY
                plain = inspect.Parameter.POSITIONAL_OR_KEYWORD
                self.assertIs(parameter.kind, starred if name in STARRED else plain)
                self.assertEqual(parameter.default, DEFAULTS.get((deed, name), inspect.Parameter.empty))

    def test_by_names(self):
        for deed, arguments in CALLS:
            named = {argument[0]: argument[1] for argument in reversed(arguments)}
            self.assertEqual(deed(**named), asked(deed, arguments, rights(arguments)))

    def test_defaults_left_out(self):
        for deed, arguments in CALLS:
            given = [argument for argument in arguments if (deed, argument[0]) not in DEFAULTS]
            if len(given) < len(arguments):
                filled = [DEFAULTS.get((deed, argument[0]), argument[1]) for argument in arguments]
                self.assertEqual(asked(deed, given, rights(given)), asked(deed, arguments, filled))

    def test_the_same_asked_again_is_told_alike(self):
        for deed, arguments in CALLS:
            right = rights(arguments)
            told = asked(deed, arguments, right)
            again = asked(deed, arguments, copy.deepcopy(right))
            self.assertEqual(repr(told), repr(again))
            if isinstance(told, list):
                told.clear()
                self.assertEqual(repr(asked(deed, arguments, right)), repr(again))


if __name__ == "__main__":
    unittest.main()
