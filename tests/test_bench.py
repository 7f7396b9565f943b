"""The bench: deeds, what it tells, what is taken back, equality, what is stirred, trials."""

import copy
import inspect
import random
import unittest
from fractions import Fraction

from platerest.bench import Bench
from platerest.bounds import worth
from platerest.errors import NoDeed, NoDeeds, NoFraction, NoPiece, NoPlate, NoRest, NotHeld, NoThick, NoWay, PlateError
from platerest.rests import is_rest, paper, pulls
from platerest.strains import stresses
from platerest.sums import thickened
from tests.shapes import APART, BOW, GRID, NOUGHT, ONE, PLATES, RING, SQUARE, TRIANGLE, chance_plate, wholes
from tests.things import GREAT, GREATEST, deep, no_fractions, no_wholes, ours
from tests.wrongs import no_pieces, no_plates, no_thicks, no_ways_at_all

STILL = wholes(0, 0, 0, 0, 0, 0)
HOLDS = (("hold", 0, NOUGHT), ("hold", 1, NOUGHT), ("hold", 3, NOUGHT))
AT_NOUGHT = ((0, NOUGHT), (1, NOUGHT), (3, NOUGHT))
RESTING = wholes(0, 0, 3, 0, 0, -1)


def done(bench, deeds):
    for word, *things in deeds:
        getattr(bench, word)(*things)
    return bench


def told(bench):
    return bench.plate(), bench.holding(), bench.loads(), len(bench)


def pulled():
    return done(Bench(TRIANGLE), HOLDS + (("load", 2, (4, 1)),))


class Tests(unittest.TestCase):
    def refused(self, error, deed, *handed):
        with self.assertRaises(error) as caught:
            deed(*handed)
        self.assertIs(type(caught.exception), error)


class Deeds(Tests):
    def test_a_new_bench(self):
        for plate in PLATES:
            bench = Bench(plate)
            nought = (NOUGHT,) * (2 * len(plate[0]))
            self.assertEqual(told(bench), (plate, (), nought, 0))
            self.assertEqual(bench.paper(), ("rest", nought))
            self.assertEqual((bench.pulls(), bench.worth()), ((), NOUGHT))

    def test_no_plate(self):
        for thing in no_plates():
            self.refused(NoPlate, Bench, thing)

    def test_by_hand(self):
        bench = pulled()
        self.assertEqual(told(bench), (TRIANGLE, AT_NOUGHT, wholes(0, 0, 4, 0, 0, 0), 4))
        self.assertEqual(bench.paper(), ("rest", RESTING))
        self.assertEqual(bench.worth(), (-6, 1))
        self.assertEqual(bench.pulls(), wholes(-4, 0, 0))
        bench.thicken(0, 2)
        self.assertEqual(bench.plate(), thickened(TRIANGLE, 0, 2))
        self.assertEqual(bench.paper(), ("rest", ((0, 1), (0, 1), (3, 2), (0, 1), (0, 1), (-1, 2))))
        self.assertEqual(bench.worth(), (-3, 1))
        bench.let(3)
        self.assertEqual(bench.holding(), AT_NOUGHT[:2])
        # Turning about corner 0 is loose now, but the load doesn't work on it.
        self.assertEqual(bench.paper()[0], "rest")
        bench.let(0)
        self.assertEqual(bench.paper()[0], "none")
        self.assertEqual(len(bench), 7)

    def test_deeds_tell_nothing(self):
        bench = Bench(TRIANGLE)
        for deed in HOLDS + (("load", 2, ONE), ("thicken", 0, 3), ("let", 1), ("undo",)):
            self.assertIsNone(getattr(bench, deed[0])(*deed[1:]))

    def test_hold_in_whatever_order_and_again(self):
        bench = Bench(TRIANGLE)
        done(bench, (("hold", 3, NOUGHT), ("hold", 0, ONE), ("hold", 5, (1, 2)), ("hold", 1, NOUGHT)))
        self.assertEqual(bench.holding(), ((0, ONE), (1, NOUGHT), (3, NOUGHT), (5, (1, 2))))
        bench.hold(0, (-7, 3))
        self.assertEqual(bench.holding(), ((0, (-7, 3)), (1, NOUGHT), (3, NOUGHT), (5, (1, 2))))
        bench.let(3)
        self.assertEqual(bench.holding(), ((0, (-7, 3)), (1, NOUGHT), (5, (1, 2))))
        self.assertEqual(len(bench), 6)

    def test_load_sets_and_does_not_add(self):
        bench = Bench(TRIANGLE)
        bench.load(4, (2, 3))
        bench.load(4, (1, 3))
        self.assertEqual(bench.loads(), (NOUGHT,) * 4 + ((1, 3), NOUGHT))
        bench.load(4, NOUGHT)
        self.assertEqual(bench.loads(), STILL)

    def test_by_names(self):
        bench = Bench(plate=TRIANGLE)
        bench.hold(move=ONE, way=5)
        bench.load(amount=(1, 2), way=5)
        bench.thicken(thick=4, piece=0)
        bench.let(way=5)
        self.assertEqual(told(bench), (thickened(TRIANGLE, 0, 4), (), STILL[:5] + ((1, 2),), 4))
        self.assertEqual(bench.trial(deeds=()), bench.paper())
        names = {"hold": ["way", "move"], "let": ["way"], "load": ["way", "amount"], "thicken": ["piece", "thick"],
                 "trial": ["deeds"], "undo": [], "plate": [], "holding": [], "loads": [], "paper": [], "pulls": [],
                 "worth": [], "stirred": []}
        for name, right in names.items():
            self.assertEqual(list(inspect.signature(getattr(Bench, name)).parameters), ["self"] + right)

    def test_refusals(self):
        bench = done(Bench(SQUARE), HOLDS)
        kept = told(bench)
        for way in no_ways_at_all():
            for deed, more in ((bench.hold, (None,)), (bench.hold, (ONE,)), (bench.load, (None,)), (bench.let, ())):
                self.refused(NoWay, deed, way, *more)
        for thing in no_fractions():
            self.refused(NoFraction, bench.hold, 0, thing)
            self.refused(NoFraction, bench.hold, 7, thing)
            self.refused(NoFraction, bench.load, 7, thing)
        for way in (2, 4, 5, 6, 7):
            self.refused(NotHeld, bench.let, way)
        for piece in no_pieces():
            self.refused(NoPiece, bench.thicken, piece, None)
            self.refused(NoPiece, bench.thicken, piece, 1)
        for thick in no_thicks():
            self.refused(NoThick, bench.thicken, 1, thick)
        self.assertEqual(told(bench), kept)

    def test_no_rest(self):
        bench = Bench(TRIANGLE)
        bench.load(0, ONE)
        self.assertEqual(bench.paper(), paper(TRIANGLE, (), bench.loads()))
        self.assertEqual(bench.paper()[0], "none")
        for deed in (bench.worth, bench.pulls, bench.stirred):
            self.refused(NoRest, deed)

    def test_great_numbers(self):
        bench = done(Bench(SQUARE), (("hold", 0, ours(Fraction(GREAT, GREATEST))), ("hold", 1, NOUGHT),
                                     ("hold", 3, (-GREATEST, 1)), ("load", 6, ours(Fraction(1, GREAT)))))
        word, motions = bench.paper()
        self.assertTrue(is_rest(SQUARE, bench.holding(), bench.loads(), motions))
        bench.load(7, motions[7])
        bench.hold(4, bench.worth())
        self.assertEqual(bench.pulls(), pulls(SQUARE, bench.holding(), bench.loads(), bench.paper()[1]))


class Undo(Tests):
    def test_nothing_to_undo(self):
        bench = Bench(TRIANGLE)
        self.refused(NoDeed, bench.undo)
        self.refused(NoDeed, bench.stirred)
        bench.load(0, NOUGHT)
        bench.undo()
        self.refused(NoDeed, bench.undo)
        self.assertEqual(told(bench), (TRIANGLE, (), STILL, 0))

    def test_all_is_taken_back(self):
        bench = Bench(SQUARE)
        states = [told(bench)]
        deeds = (("hold", 1, ONE), ("thicken", 0, 7), ("load", 3, (1, 3)), ("hold", 1, (2, 1)), ("let", 1),
                 ("load", 3, (1, 3)), ("thicken", 0, 7), ("hold", 6, NOUGHT), ("thicken", 1, 1))
        for deed in deeds:
            done(bench, (deed,))
            states.append(told(bench))
        self.assertEqual(len(bench), len(deeds))
        for state in states[-2::-1]:
            bench.undo()
            self.assertEqual(told(bench), state)
        self.assertEqual(bench, Bench(SQUARE))

    def test_an_undone_deed_stands_no_more(self):
        bench = Bench(TRIANGLE)
        done(bench, (("load", 0, ONE), ("load", 1, ONE), ("undo",), ("load", 2, ONE)))
        self.assertEqual((bench.loads(), len(bench)), (wholes(1, 0, 1, 0, 0, 0), 2))
        done(bench, (("undo",), ("undo",)))
        self.assertEqual((bench.loads(), len(bench)), (STILL, 0))

    def test_a_deed_that_changes_nothing_is_one(self):
        bench = Bench(TRIANGLE)
        done(bench, (("load", 0, NOUGHT), ("thicken", 0, 1), ("hold", 2, ONE), ("hold", 2, ONE)))
        self.assertEqual(len(bench), 4)
        bench.undo()
        self.assertEqual((bench.holding(), len(bench)), (((2, ONE),), 3))

    def test_chance_deeds_as_if_never_done(self):
        chance = random.Random(1)
        for plate in (TRIANGLE, SQUARE, BOW, chance_plate(chance, 6)):
            bench = Bench(plate)
            plain = []
            for turn in range(80):
                deed = self.chance_deed(chance, plate, dict(bench.holding()))
                if deed == ("undo",):
                    if plain:
                        plain.pop()
                        bench.undo()
                else:
                    plain.append(deed)
                    done(bench, (deed,))
                if turn % 10 == 9:
                    other = done(Bench(plate), plain)
                    self.assertEqual(told(bench), told(other))
                    self.assertEqual((bench == other, bench.paper()), (True, other.paper()))
                    self.assertEqual(bench.paper(), paper(bench.plate(), bench.holding(), bench.loads()))

    def chance_deed(self, chance, plate, holding):
        word = chance.choice(("hold", "hold", "let", "load", "thicken", "undo", "undo"))
        way = chance.randrange(2 * len(plate[0]))
        part = ours(Fraction(chance.randint(-4, 4), chance.choice((1, 2, 3))))
        if word == "let":
            return ("let", chance.choice(list(holding))) if holding else ("undo",)
        if word == "thicken":
            return (word, chance.randrange(len(plate[1])), chance.randint(1, 9))
        return ("undo",) if word == "undo" else (word, way, part)


class Equality(Tests):
    def test_by_plate_holding_and_loads(self):
        one, other = pulled(), pulled()
        self.assertTrue(one == other)
        self.assertFalse(one != other)
        # In another order, and by other deeds.
        other = done(Bench(TRIANGLE), (("load", 2, (4, 1)), ("thicken", 0, 9)) + HOLDS[::-1] + (("thicken", 0, 1),))
        self.assertTrue(one == other)
        self.assertNotEqual(len(one), len(other))
        for deed in (("load", 2, (3, 1)), ("load", 0, ONE), ("hold", 0, ONE), ("hold", 5, NOUGHT), ("let", 0),
                     ("thicken", 0, 2)):
            other = done(pulled(), (deed,))
            self.assertFalse(one == other)
            self.assertTrue(one != other)
            other.undo()
            self.assertTrue(one == other)
        self.assertFalse(Bench(TRIANGLE) == Bench(SQUARE))
        thick = thickened(SQUARE, 0, 5)
        self.assertTrue(done(Bench(SQUARE), (("thicken", 0, 5),)) == Bench(thick))

    def test_nothing_else(self):
        bench = pulled()
        state = (bench.plate(), bench.holding(), bench.loads())
        for thing in [state, list(state), bench.plate(), None, 0, 4, True, False, "", "bench", (), [], {}, deep(10)]:
            self.assertIs(bench == thing, False)
            self.assertIs(thing == bench, False)
            self.assertIs(bench != thing, True)

    def test_two_benches_have_nothing_in_common(self):
        one, other = Bench(TRIANGLE), Bench(TRIANGLE)
        done(one, HOLDS)
        self.assertEqual(told(other), (TRIANGLE, (), STILL, 0))
        self.refused(NoDeed, other.undo)


class Stirred(Tests):
    def test_by_hand(self):
        bench = pulled()
        self.assertEqual(bench.stirred(), [0])
        bench.load(2, (4, 1))
        self.assertEqual(bench.stirred(), [])
        # Twice as thick, half the stress.
        bench.thicken(0, 2)
        self.assertEqual(bench.stirred(), [0])
        bench.undo()
        self.assertEqual(bench.stirred(), [])
        # Held where it is already.
        bench.hold(5, (-1, 1))
        self.assertEqual(bench.stirred(), [])
        bench.load(1, (9, 1))
        self.assertEqual(bench.stirred(), [])
        # All is shifted along x, which strains nothing.
        bench.hold(0, ONE)
        self.assertEqual(bench.stirred(), [])
        bench.hold(5, ONE)
        self.assertEqual(bench.stirred(), [0])

    def test_what_lies_apart_is_not_stirred(self):
        bench = done(Bench(APART), tuple(("hold", way, NOUGHT) for way in (0, 1, 3, 6, 7, 9)))
        bench.load(4, ONE)
        self.assertEqual(bench.stirred(), [0])
        bench.load(10, ONE)
        self.assertEqual(bench.stirred(), [1])

    def test_where_no_rest_is(self):
        bench = Bench(TRIANGLE)
        bench.load(0, ONE)
        self.refused(NoRest, bench.stirred)
        bench.hold(0, NOUGHT)
        # There is a rest now, but there was none ahead.
        self.assertEqual(bench.paper()[0], "rest")
        self.refused(NoRest, bench.stirred)
        bench.hold(1, NOUGHT)
        self.assertEqual(bench.stirred(), [])
        bench.load(2, ONE)
        self.assertEqual(bench.paper()[0], "rest")
        bench.let(0)
        self.assertEqual(bench.paper()[0], "none")
        self.refused(NoRest, bench.stirred)

    def test_by_stresses(self):
        chance = random.Random(2)
        for plate in (SQUARE, RING, GRID, chance_plate(chance, 7)):
            bench = done(Bench(plate), tuple(("hold", way, NOUGHT) for way in range(2 * len(plate[0])) if way % 3))
            for turn in range(6):
                way, piece = chance.randrange(2 * len(plate[0])), chance.randrange(len(plate[1]))
                deed = chance.choice((("load", way, ours(chance.randint(-1, 1))), ("thicken", piece, turn + 1),
                                      ("hold", way, ours(chance.randint(0, 1)))))
                ahead = stresses(bench.plate(), bench.paper()[1])
                done(bench, (deed,))
                behind = stresses(bench.plate(), bench.paper()[1])
                right = [at for at, (one, other) in enumerate(zip(ahead, behind)) if one != other]
                self.assertEqual(bench.stirred(), right)
                self.assertIs(type(bench.stirred()), list)


class Trial(Tests):
    def test_by_hand(self):
        bench = Bench(TRIANGLE)
        deeds = HOLDS + (("load", 2, (4, 1)),)
        for form in (deeds, list(deeds)):
            self.assertEqual(bench.trial(form), ("rest", RESTING))
            self.assertEqual(told(bench), (TRIANGLE, (), STILL, 0))
        self.assertEqual(deeds, HOLDS + (("load", 2, (4, 1)),))
        self.assertEqual(bench.trial([]), ("rest", STILL))
        self.assertEqual(bench.trial(deeds + (("thicken", 0, 4), ("let", 3), ("undo",), ("undo",))), ("rest", RESTING))
        self.assertEqual(bench.trial((("load", 0, ONE),)), paper(TRIANGLE, (), wholes(1, 0, 0, 0, 0, 0)))

    def test_undo_reaches_what_stood_ahead(self):
        bench = pulled()
        kept = told(bench)
        self.assertEqual(bench.trial((("undo",),)), ("rest", STILL))
        self.assertEqual(bench.trial((("load", 2, ONE), ("undo",), ("undo",))), ("rest", STILL))
        self.assertEqual(bench.trial((("undo",),) * 4), ("rest", STILL))
        self.refused(NoDeed, bench.trial, (("undo",),) * 5)
        self.assertEqual(told(bench), kept)
        self.assertEqual(bench.paper(), ("rest", RESTING))

    def test_refused_as_the_deeds_are(self):
        bench = pulled()
        kept = told(bench)
        for error, deed in (
            (NoWay, ("hold", 6, ONE)), (NoWay, ("hold", 6, None)), (NoFraction, ("hold", 5, (2, 4))),
            (NoWay, ("let", -1)), (NotHeld, ("let", 5)), (NoWay, ("let", [])), (NoWay, ("load", True, ONE)),
            (NoFraction, ("load", 1, 1)), (NoPiece, ("thicken", 1, 1)), (NoThick, ("thicken", 0, 0)),
            (NoPiece, ("thicken", {}, {})),
        ):
            for ahead in ((), (("load", 0, ONE),), (("let", 0), ("undo",), ("undo",))):
                self.refused(error, bench.trial, ahead + (deed,))
                self.refused(error, bench.trial, list(ahead) + [deed, ("undo",)])
                self.assertEqual(told(bench), kept)
        # What an earlier deed has changed counts.
        self.refused(NotHeld, bench.trial, (("let", 0), ("let", 0)))
        self.assertEqual(bench.trial((("hold", 5, (-1, 1)), ("let", 5))), ("rest", RESTING))

    def test_no_deeds(self):
        bench = pulled()
        kept = told(bench)
        good = ("load", 2, ONE)
        wrong = [thing for thing in no_wholes() if thing not in ((), [])]
        wrong += [0, 1, good, ("undo",), "undo", {"undo": ()}]
        parts = no_wholes() + no_fractions() + [
            ["undo"], ["load", 2, ONE], ("hold",), ("hold", 1), ("hold", 1, ONE, ONE), ("let",), ("let", 1, 2),
            ("load",), ("load", 1), ("load", 1, ONE, 1), ("thicken", 1), ("thicken", 0, 1, 1), ("undo", 1),
            ("undo", None), ("Undo",), ("paper",), ("trial", ()), ("stirred",), ("",), ("undo ",),
            (None,), (0,), (("undo",),), (["undo"],), ({},),
            ("change", 1, 2), ("plate",), ("hold", (1, ONE)), (b"undo",),
        ]
        wrong += [(part,) for part in parts] + [[good, part] for part in parts] + [(part, good) for part in parts]
        for thing in wrong:
            self.refused(NoDeeds, bench.trial, thing)
        # All is looked at ahead of the first one, which would be refused otherwise.
        self.refused(NoDeeds, bench.trial, (("let", 5), ("nothing",)))
        self.refused(NotHeld, bench.trial, (("let", 5), ("undo",)))
        self.assertEqual(told(bench), kept)

    def test_at_most_twenty(self):
        bench = Bench(TRIANGLE)
        deeds = [("load", 2, (at, 1)) for at in range(1, 21)]
        right = done(Bench(TRIANGLE), deeds).paper()
        self.assertEqual(bench.trial(deeds), right)
        self.assertEqual(bench.trial(tuple(deeds)), right)
        for more in (("undo",), ("load", 2, ONE)):
            self.refused(NoDeeds, bench.trial, deeds + [more])
            self.refused(NoDeeds, bench.trial, tuple(deeds) + (more,))
        self.refused(NoDeeds, bench.trial, [("let", 9)] * 21)

    def test_as_if_done(self):
        chance = random.Random(3)
        bench = pulled()
        for turn in range(40):
            deeds = [Undo.chance_deed(self, chance, TRIANGLE, {}) for at in range(chance.randint(0, 20))]
            kept = told(bench)
            other = done(Bench(TRIANGLE), HOLDS + (("load", 2, (4, 1)),))
            try:
                right = done(other, deeds).paper()
            except PlateError as error:
                self.refused(type(error), bench.trial, deeds)
            else:
                self.assertEqual(bench.trial(deeds), right)
            self.assertEqual(told(bench), kept)

    def test_deeds_handed_in_stay_and_may_change_later(self):
        bench = Bench(TRIANGLE)
        deeds = [("load", 2, ONE), ("hold", 2, NOUGHT)]
        kept = copy.deepcopy(deeds)
        first = bench.trial(deeds)
        self.assertEqual(deeds, kept)
        deeds.clear()
        self.assertEqual(bench.trial(kept), first)


class Again(Tests):
    def test_the_same_asked_again(self):
        bench = pulled()
        for deed in (bench.plate, bench.holding, bench.loads, bench.paper, bench.pulls, bench.worth, bench.stirred):
            first = deed()
            again = deed()
            self.assertEqual(repr(first), repr(again))
            if isinstance(first, list):
                first.append(7)
                self.assertEqual(repr(deed()), repr(again))
        self.assertEqual(len(bench), 4)

    def test_as_the_functions_tell(self):
        bench = done(Bench(SQUARE), HOLDS + (("load", 7, (2, 1)), ("load", 4, ONE), ("hold", 3, (1, 2))))
        state = (bench.plate(), bench.holding(), bench.loads())
        self.assertEqual(bench.paper(), paper(*state))
        self.assertEqual(bench.worth(), worth(*state))
        self.assertEqual(bench.pulls(), pulls(*state, paper(*state)[1]))


if __name__ == "__main__":
    unittest.main()
