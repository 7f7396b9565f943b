"""What motions are worth from above, what stresses are worth from below, the worth of the rest, the gap, steps."""

import random
import unittest
from fractions import Fraction

from platerest.bounds import above, below, gap, step, swept, worth
from platerest.errors import NoBalance, NoMotions, NoRest, NoWay
from platerest.quotients import is_fraction
from platerest.rests import is_rest, paper
from platerest.strains import stresses
from tests.shapes import (
    BOW, GRID, NOUGHT, PLATES, SQUARE, TRIANGLE, all_theirs, chance_holding, chance_motions, chance_plate, held_by,
    keeping, right_pushes, right_stress_worth, right_stresses, right_worth, volume, wholes,
)
from tests.things import GREAT, GREATEST, our_row, ours, theirs

AT_NOUGHT = ((0, NOUGHT), (1, NOUGHT), (3, NOUGHT))
PULLED = wholes(0, 0, 4, 0, 0, 0)
STILL = wholes(0, 0, 0, 0, 0, 0)
RESTING = wholes(0, 0, 3, 0, 0, -1)
ALL_HELD = tuple((way, move) for way, move in enumerate(wholes(0, 0, 1, 0, 0, 0)))


def right_above(plate, loads, motions):
    numbers = all_theirs(motions)
    return right_worth(plate, numbers) - sum(one * other for one, other in zip(all_theirs(loads), numbers))


def right_below(plate, holding, loads, given):
    given = [all_theirs(three) for three in given]
    pushes = right_pushes(plate, given)
    moved = sum(theirs(move) * (pushes[way] - theirs(loads[way])) for way, move in holding)
    return moved - right_stress_worth(plate, given)


def strong_holding(chance, plate):
    """The first two corners held, and others by chance, so that mostly no part is loose."""
    return tuple((way, ours(Fraction(chance.randint(-2, 2), chance.choice((1, 3)))))
                 for way in range(2 * len(plate[0])) if way < 4 or chance.random() < 0.6)


class Worths(unittest.TestCase):
    def test_by_hand(self):
        # The strain of the rest is (3, -1, 0), its stress (8, 0, 0).
        self.assertEqual(above(TRIANGLE, AT_NOUGHT, PULLED, RESTING), (-6, 1))
        self.assertEqual(above(TRIANGLE, AT_NOUGHT, PULLED, STILL), (0, 1))
        self.assertEqual(above(TRIANGLE, AT_NOUGHT, PULLED, wholes(0, 0, 1, 0, 0, 0)), (-13, 4))
        self.assertEqual(below(TRIANGLE, AT_NOUGHT, PULLED, (wholes(8, 0, 0),)), (-6, 1))
        self.assertEqual(worth(TRIANGLE, AT_NOUGHT, PULLED), (-6, 1))
        self.assertEqual(gap(TRIANGLE, AT_NOUGHT, PULLED, RESTING), (0, 1))
        self.assertEqual(gap(TRIANGLE, AT_NOUGHT, PULLED, STILL), (6, 1))
        self.assertEqual(gap(TRIANGLE, AT_NOUGHT, PULLED, wholes(0, 0, 1, 0, 0, 0)), (11, 4))

    def test_all_held_by_hand(self):
        moved = wholes(0, 0, 1, 0, 0, 0)
        loads = wholes(7, 0, 5, 0, 0, 0)
        self.assertEqual(above(TRIANGLE, ALL_HELD, loads, moved), (-17, 4))
        self.assertEqual(worth(TRIANGLE, ALL_HELD, loads), (-17, 4))
        self.assertEqual(gap(TRIANGLE, ALL_HELD, loads, moved), (0, 1))
        # Whatever the stresses are, they are balanced where no way is loose.
        self.assertEqual(below(TRIANGLE, ALL_HELD, loads, (wholes(3, 1, 0),)), (-17, 4))
        self.assertEqual(below(TRIANGLE, ALL_HELD, loads, (wholes(0, 0, 0),)), (-5, 1))
        self.assertEqual(below(TRIANGLE, ALL_HELD, loads, (wholes(0, 0, 2),)), (-6, 1))

    def test_by_other_reckoning(self):
        chance = random.Random(11)
        for plate in PLATES[:5] * 3 + (GRID,):
            holding = chance_holding(chance, plate, 9)
            loads, motions = chance_motions(chance, plate), keeping(holding, chance_motions(chance, plate))
            self.assertEqual(theirs(above(plate, holding, loads, motions)), right_above(plate, loads, motions))
            given = tuple(chance_motions(chance, TRIANGLE)[:3] for piece in plate[1])
            held = tuple((way, move) for way, move in enumerate(motions))
            told = below(plate, held, loads, given)
            self.assertEqual(theirs(told), right_below(plate, held, loads, given))
            self.assertTrue(is_fraction(told) and is_fraction(above(plate, holding, loads, motions)))

    def test_kept_and_balanced(self):
        for move in ((1, 1), (-1, 1), (1, GREATEST)):
            for deed in (above, gap):
                with self.assertRaises(NoMotions):
                    deed(TRIANGLE, AT_NOUGHT, PULLED, RESTING[:1] + (move,) + RESTING[2:])
        for three in ((8, 1, 0), (8, 0, 1), (7, 0, 0), (0, 0, 0)):
            with self.assertRaises(NoBalance) as caught:
                below(TRIANGLE, AT_NOUGHT, PULLED, (wholes(*three),))
            self.assertIs(type(caught.exception), NoBalance)
        # At held ways the pushes are whatever they are.
        self.assertEqual(below(TRIANGLE, AT_NOUGHT, PULLED[:3] + wholes(9, 0, 0), (wholes(8, 0, 0),)), (-6, 1))

    def test_no_rest(self):
        loads = wholes(1, 0, 0, 0, 0, 0)
        for deed, more in ((worth, ()), (gap, (STILL,))):
            with self.assertRaises(NoRest) as caught:
                deed(TRIANGLE, (), loads, *more)
            self.assertIs(type(caught.exception), NoRest)
        self.assertEqual(above(TRIANGLE, (), loads, STILL), (0, 1))
        self.assertEqual(step(TRIANGLE, (), loads, STILL, 5), STILL)
        # Where there is neither, it is the motions that are refused.
        with self.assertRaises(NoMotions):
            gap(TRIANGLE, ((0, (1, 1)),), wholes(0, 1, 0, 0, 0, 0), STILL)
        with self.assertRaises(NoRest):
            gap(TRIANGLE, ((0, NOUGHT),), wholes(0, 1, 0, 0, 0, 0), STILL)

    def test_a_rest_among_many(self):
        loads = wholes(1, 0, -1, 0, 0, 0)
        resting = paper(TRIANGLE, (), loads)[1]
        shifted = our_row(theirs(part) + 5 for part in resting)
        self.assertTrue(is_rest(TRIANGLE, (), loads, shifted))
        self.assertEqual(above(TRIANGLE, (), loads, shifted), worth(TRIANGLE, (), loads))
        self.assertEqual(gap(TRIANGLE, (), loads, shifted), (0, 1))


class Bounds(unittest.TestCase):
    """What the promise says: below, no more than the worth of the rest, no more than above."""

    def other_balanced(self, chance, plate, holding, loads):
        """Stresses that are balanced, but of plates of another stuff, or of other moves."""
        for turn in range(4):
            other = plate[:3] + ((chance.randint(0, 9), chance.randint(1, 9)),)
            held = tuple((way, ours(chance.randint(-3, 3))) for way, move in holding)
            yield stresses(other, paper(other, held, loads)[1])

    def look(self, chance, plate, holding, loads):
        word, resting = paper(plate, holding, loads)
        if word == "none":
            return False
        least = theirs(worth(plate, holding, loads))
        own = stresses(plate, resting)
        self.assertEqual(theirs(above(plate, holding, loads, resting)), least)
        self.assertEqual(theirs(below(plate, holding, loads, own)), least)
        for turn in range(4):
            motions = keeping(holding, chance_motions(chance, plate))
            told = theirs(above(plate, holding, loads, motions))
            self.assertGreaterEqual(told, least)
            self.assertEqual(told == least, is_rest(plate, holding, loads, motions))
            apart = [one - other for one, other in zip(all_theirs(motions), all_theirs(resting))]
            self.assertEqual(theirs(gap(plate, holding, loads, motions)), told - least)
            self.assertEqual(right_worth(plate, apart), told - least)
        for given in self.other_balanced(chance, plate, holding, loads):
            told = theirs(below(plate, holding, loads, given))
            self.assertEqual(told, right_below(plate, holding, loads, given))
            self.assertLessEqual(told, least)
            self.assertEqual(told == least, given == own)
        return True

    def test_known_plates(self):
        chance = random.Random(21)
        for plate in PLATES[:5]:
            seen = [self.look(chance, plate, strong_holding(chance, plate), chance_motions(chance, plate))
                    for turn in range(4)]
            self.assertIn(True, seen)

    def test_chance_plates(self):
        chance = random.Random(22)
        seen = 0
        for turn in range(40):
            plate = chance_plate(chance, chance.randint(3, 8))
            seen += self.look(chance, plate, strong_holding(chance, plate), chance_motions(chance, plate))
        self.assertGreater(seen, 20)

    def test_the_greatest_plate(self):
        chance = random.Random(23)
        self.assertTrue(self.look(chance, GRID, AT_NOUGHT, chance_motions(chance, GRID)))


class Steps(unittest.TestCase):
    def test_by_hand(self):
        self.assertEqual(step(TRIANGLE, AT_NOUGHT, PULLED, STILL, 2), wholes(0, 0) + ((8, 3),) + wholes(0, 0, 0))
        self.assertEqual(step(TRIANGLE, AT_NOUGHT, PULLED, STILL, 4), STILL)
        self.assertEqual(step(TRIANGLE, AT_NOUGHT, PULLED, wholes(0, 0, 3, 0, 0, 0), 5), RESTING)
        self.assertEqual(step(TRIANGLE, AT_NOUGHT, PULLED, wholes(0, 0, 9, 0, 0, -1), 2), RESTING)
        self.assertEqual(step(TRIANGLE, AT_NOUGHT, PULLED, wholes(0, 0, 3, 0, 7, -1), 4), RESTING)

    def test_rounds_by_hand(self):
        once = wholes(0, 0) + ((8, 3),) + wholes(0, 0) + ((-8, 9),)
        twice = wholes(0, 0) + ((80, 27),) + wholes(0, 0) + ((-80, 81),)
        self.assertEqual(swept(TRIANGLE, AT_NOUGHT, PULLED, STILL), once)
        self.assertEqual(swept(TRIANGLE, AT_NOUGHT, PULLED, STILL, rounds=1), once)
        self.assertEqual(swept(TRIANGLE, AT_NOUGHT, PULLED, STILL, rounds=2), twice)
        self.assertEqual(swept(TRIANGLE, AT_NOUGHT, PULLED, once), twice)
        self.assertEqual(swept(TRIANGLE, AT_NOUGHT, PULLED, STILL, rounds=0), STILL)
        self.assertEqual(swept(TRIANGLE, AT_NOUGHT, PULLED, RESTING, rounds=9), RESTING)

    def test_nothing_is_loose(self):
        moved = wholes(0, 0, 1, 0, 0, 0)
        self.assertEqual(swept(TRIANGLE, ALL_HELD, PULLED, moved, rounds=9), moved)
        for way in range(6):
            with self.assertRaises(NoWay):
                step(TRIANGLE, ALL_HELD, PULLED, moved, way)

    def test_motions_go_ahead_of_the_way(self):
        with self.assertRaises(NoMotions):
            step(TRIANGLE, AT_NOUGHT, PULLED, wholes(1, 0, 0, 0, 0, 0), 0)
        with self.assertRaises(NoWay):
            step(TRIANGLE, AT_NOUGHT, PULLED, STILL, 0)

    def test_a_step_is_in_balance_and_leaves_all_else(self):
        chance = random.Random(31)
        plates = [chance_plate(chance, chance.randint(3, 9)) for turn in range(25)] + list(PLATES)
        for plate in plates:
            many = 2 * len(plate[0])
            holding = chance_holding(chance, plate, many - 1)
            loose = [way for way in range(many) if way not in held_by(holding)]
            loads, motions = chance_motions(chance, plate), keeping(holding, chance_motions(chance, plate))
            way = chance.choice(loose)
            told = step(plate, holding, loads, motions, way)
            self.assertEqual(told[:way] + told[way + 1:], motions[:way] + motions[way + 1:])
            self.assertTrue(is_fraction(told[way]))
            pushes = right_pushes(plate, right_stresses(plate, all_theirs(told)))
            self.assertEqual(pushes[way], theirs(loads[way]))
            self.assertEqual(step(plate, holding, loads, told, way), told)
            ahead, behind = (theirs(above(plate, holding, loads, row)) for row in (motions, told))
            self.assertEqual(behind < ahead, told != motions)
            self.assertLessEqual(behind, ahead)
            for more in (Fraction(1, 100), Fraction(-1, 100), 3):
                other = told[:way] + (ours(theirs(told[way]) + more),) + told[way + 1:]
                self.assertGreater(theirs(above(plate, holding, loads, other)), behind)

    def test_rounds_are_steps_in_order(self):
        chance = random.Random(32)
        for plate in PLATES[:5] + tuple(chance_plate(chance, 6) for turn in range(5)):
            holding = chance_holding(chance, plate, 5)
            loads, motions = chance_motions(chance, plate), keeping(holding, chance_motions(chance, plate))
            loose = [way for way in range(len(loads)) if way not in held_by(holding)]
            right = motions
            for rounds in range(1, 4):
                for way in loose:
                    right = step(plate, holding, loads, right, way)
                self.assertEqual(swept(plate, holding, loads, motions, rounds=rounds), right)

    def test_rounds_come_nearer(self):
        holding = AT_NOUGHT + ((4, (1, 2)), (7, (-1, 3)))
        loads, motions = wholes(0, 0, 1, 0, 0, 2, -3, 0), keeping(holding, wholes(*range(8)))
        gaps = [theirs(gap(SQUARE, holding, loads, swept(SQUARE, holding, loads, motions, rounds=rounds)))
                for rounds in range(10)]
        for one, other in zip(gaps, gaps[1:]):
            self.assertLess(other, one)
        self.assertGreater(gaps[9], 0)
        self.assertLess(gaps[9], gaps[0] / 100)

    def test_the_greatest_plate(self):
        chance = random.Random(33)
        loads, motions = chance_motions(chance, GRID), keeping(AT_NOUGHT, chance_motions(chance, GRID))
        told = swept(GRID, AT_NOUGHT, loads, motions, rounds=9)
        self.assertTrue(all(is_fraction(part) for part in told))
        self.assertLess(theirs(gap(GRID, AT_NOUGHT, loads, told)), theirs(gap(GRID, AT_NOUGHT, loads, motions)))
        pushes = right_pushes(GRID, right_stresses(GRID, all_theirs(told)))
        self.assertEqual(pushes[59], theirs(loads[59]))


class GreatNumbers(unittest.TestCase):
    def test_great_moves_and_loads(self):
        holding = ((0, (GREAT, GREATEST)), (1, (-GREATEST, 2)), (3, (1, GREATEST)))
        loads = our_row([GREATEST, Fraction(1, GREAT), -GREAT, Fraction(GREAT, 7), 0, 1])
        loads += our_row([Fraction(3, GREATEST), Fraction(-GREATEST, GREAT)])
        resting = paper(SQUARE, holding, loads)[1]
        least = worth(SQUARE, holding, loads)
        self.assertEqual(theirs(least), right_above(SQUARE, loads, resting))
        self.assertEqual(below(SQUARE, holding, loads, stresses(SQUARE, resting)), least)
        motions = keeping(holding, loads)
        told = swept(SQUARE, holding, loads, motions, rounds=9)
        self.assertEqual(swept(SQUARE, holding, loads, told, rounds=0), told)
        self.assertLess(theirs(above(SQUARE, holding, loads, told)), theirs(above(SQUARE, holding, loads, motions)))
        self.assertLess(theirs(least), theirs(above(SQUARE, holding, loads, told)))
        self.assertEqual(swept(SQUARE, holding, loads, resting, rounds=9), resting)

    def test_thickness_and_area_count(self):
        # One great piece: the same strain is worth as much more as it is greater and thicker.
        great = (((0, 0), (100, 0), (0, 100)), ((0, 1, 2),), (9,), (1, 1))
        motions = wholes(0, 0, 100, 0, 0, 0)
        self.assertEqual(volume(great, 0), 45000)
        self.assertEqual(above(great, (), STILL, motions), (67500, 1))

    def test_a_bow_may_turn_about_its_corner(self):
        holding = ((0, NOUGHT), (1, NOUGHT), (2, NOUGHT), (6, NOUGHT))
        loads = wholes(0, 0, 0, 0, 1, 0, 0, 0, -1, 0)
        self.assertEqual(paper(BOW, holding, loads)[0], "rest")
        self.assertLess(theirs(worth(BOW, holding, loads)), 0)


if __name__ == "__main__":
    unittest.main()
