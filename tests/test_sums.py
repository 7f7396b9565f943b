"""What a load here moves there, load cases summed, and plates of other thicknesses."""

import random
import unittest
from fractions import Fraction

from platerest.bounds import worth
from platerest.errors import NoFirm, NoFraction, NoPiece, NoRest, NoThick, NoWay, NoWays
from platerest.frees import firm
from platerest.plates import is_plate
from platerest.rests import is_rest, paper
from platerest.sums import influence, influences, summed, thickened
from tests.shapes import (
    APART, BOW, GRID, NOUGHT, ONE, PLATES, SQUARE, TRIANGLE, all_theirs, chance_holding, chance_motions, chance_plate,
    held_by, wholes,
)
from tests.things import GREAT, GREATEST, our_row, ours, theirs

HELD = (0, 1, 3)
AT_NOUGHT = ((0, NOUGHT), (1, NOUGHT), (3, NOUGHT))
PULLED = (AT_NOUGHT, wholes(0, 0, 4, 0, 0, 0), wholes(0, 0, 3, 0, 0, -1))
# All moved by 1 along x, and the way 4 loaded besides.
SHIFTED = (((0, ONE), (1, NOUGHT), (3, NOUGHT)), wholes(0, 0, 0, 0, 2, 0), wholes(1, 0, 1, 0, 5, 0))


def refused(case, error, deed, *handed, **named):
    with case.assertRaises(error) as caught:
        deed(*handed, **named)
    case.assertIs(type(caught.exception), error)


def loaded_at(many, way):
    return tuple(ONE if at == way else NOUGHT for at in range(many))


def firm_ways(chance, plate):
    """Held ways by chance with which the plate is firm."""
    many = 2 * len(plate[0])
    while True:
        held = tuple(sorted(chance.sample(range(many), chance.randint(3, many))))
        if firm(plate, held):
            return held


class Influence(unittest.TestCase):
    def test_by_hand(self):
        table = ((2, 2, (3, 4)), (2, 4, (0, 1)), (2, 5, (-1, 4)), (4, 4, (2, 1)), (4, 5, (0, 1)), (5, 5, (3, 4)))
        for one, other, right in table:
            self.assertEqual(influence(TRIANGLE, HELD, one, other), right)
            self.assertEqual(influence(TRIANGLE, HELD, other, one), right)
        for held in HELD:
            for other in range(6):
                self.assertEqual(influence(TRIANGLE, HELD, held, other), (0, 1))
                self.assertEqual(influence(TRIANGLE, HELD, other, held), (0, 1))
        nought = wholes(0, 0, 0, 0, 0, 0)
        self.assertEqual(influences(TRIANGLE, HELD), (
            nought, nought, our_row([0, 0, Fraction(3, 4), 0, 0, Fraction(-1, 4)]), nought,
            wholes(0, 0, 0, 0, 2, 0), our_row([0, 0, Fraction(-1, 4), 0, 0, Fraction(3, 4)]),
        ))

    def test_all_held(self):
        for plate in (TRIANGLE, SQUARE):
            many = 2 * len(plate[0])
            self.assertEqual(influences(plate, tuple(range(many))), ((NOUGHT,) * many,) * many)
            self.assertEqual(influence(plate, tuple(range(many)), many - 1, 0), NOUGHT)

    def test_not_firm(self):
        for plate, held in (
            (TRIANGLE, ()), (TRIANGLE, (0, 1)), (TRIANGLE, (0, 1, 2)), (BOW, (0, 1, 2, 4)), (APART, (0, 1, 3)),
            (TRIANGLE, (0, 2, 4)),
        ):
            self.assertFalse(firm(plate, held))
            refused(self, NoFirm, influences, plate, held)
            # Firmness goes ahead of the ways, the held ways ahead of firmness.
            for way, other in ((2, 2), (None, 2), (2, None), (99, -1)):
                refused(self, NoFirm, influence, plate, held, way, other)
        refused(self, NoWays, influence, TRIANGLE, (1, 0), None, None)
        refused(self, NoWay, influence, TRIANGLE, HELD, 6, 2)
        refused(self, NoWay, influence, TRIANGLE, HELD, 2, 6)

    def test_by_rests(self):
        chance = random.Random(1)
        for plate in PLATES[:5] + tuple(chance_plate(chance, chance.randint(3, 7)) for turn in range(10)):
            held = firm_ways(chance, plate)
            many = 2 * len(plate[0])
            told = influences(plate, held)
            self.assertEqual(len(told), many)
            for way in range(many):
                right = paper(plate, tuple((at, NOUGHT) for at in held), loaded_at(many, way))
                self.assertEqual(("rest", told[way]), right)
                other = chance.randrange(many)
                self.assertEqual(influence(plate, held, way, other), told[way][other])
                self.assertEqual(told[way][other], told[other][way])

    def test_the_greatest_plate(self):
        told = influences(GRID, HELD)
        for way in range(60):
            self.assertEqual(told[way], tuple(row[way] for row in told))
        self.assertEqual(told[17], paper(GRID, AT_NOUGHT, loaded_at(60, 17))[1])
        self.assertEqual(influence(GRID, HELD, 17, 42), told[17][42])

    def test_loads_add_up(self):
        chance = random.Random(2)
        plate = chance_plate(chance, 6)
        held = firm_ways(chance, plate)
        loads = chance_motions(chance, plate)
        rows = [all_theirs(row) for row in influences(plate, held)]
        right = [sum(theirs(load) * row[at] for load, row in zip(loads, rows)) for at in range(len(loads))]
        self.assertEqual(paper(plate, tuple((way, NOUGHT) for way in held), loads), ("rest", our_row(right)))


class Summed(unittest.TestCase):
    def test_by_hand(self):
        moved = ((0, ONE), (1, NOUGHT), (3, NOUGHT))
        self.assertEqual(summed(TRIANGLE, PULLED, SHIFTED),
                         (moved, wholes(0, 0, 4, 0, 2, 0), wholes(1, 0, 4, 0, 5, -1)))
        self.assertEqual(summed(TRIANGLE, PULLED, SHIFTED, first=(1, 2), second=(-1, 3)), (
            ((0, (-1, 3)), (1, NOUGHT), (3, NOUGHT)), our_row([0, 0, 2, 0, Fraction(-2, 3), 0]),
            our_row([Fraction(-1, 3), 0, Fraction(7, 6), 0, Fraction(-5, 3), Fraction(-1, 2)]),
        ))
        still = (AT_NOUGHT, wholes(0, 0, 0, 0, 0, 0), wholes(0, 0, 0, 0, 0, 0))
        self.assertEqual(summed(TRIANGLE, PULLED, PULLED, second=(-1, 1)), still)
        self.assertEqual(summed(TRIANGLE, PULLED, SHIFTED, first=NOUGHT), SHIFTED)
        self.assertEqual(summed(TRIANGLE, PULLED, SHIFTED, second=NOUGHT), PULLED)
        self.assertEqual(summed(TRIANGLE, PULLED, SHIFTED, first=NOUGHT, second=NOUGHT), still)

    def test_nothing_held(self):
        turn = ((), wholes(0, 0, 0, 0, 0, 0), wholes(0, 0, 0, 1, -1, 0))
        pressed = ((), wholes(1, 0, -1, 0, 0, 0), paper(TRIANGLE, (), wholes(1, 0, -1, 0, 0, 0))[1])
        told = summed(TRIANGLE, turn, pressed, first=(5, 1))
        self.assertEqual(told[:2], pressed[:2])
        self.assertTrue(is_rest(TRIANGLE, *told))

    def test_refusals_in_order(self):
        other = (AT_NOUGHT[:2] + ((5, NOUGHT),), wholes(0, 0, 0, 0, 0, 0), wholes(0, 0, 0, 0, 0, 0))
        fewer = (AT_NOUGHT + ((5, (-1, 1)),), PULLED[1], PULLED[2])
        self.assertTrue(is_rest(TRIANGLE, *other) and is_rest(TRIANGLE, *fewer))
        for unlike in (other, fewer):
            refused(self, NoRest, summed, TRIANGLE, PULLED, unlike)
            refused(self, NoRest, summed, TRIANGLE, unlike, PULLED, first=None)
            self.assertEqual(summed(TRIANGLE, unlike, unlike, second=NOUGHT), unlike)
        wrong = PULLED[:2] + (wholes(0, 0, 2, 0, 0, -1),)
        refused(self, NoRest, summed, TRIANGLE, PULLED, wrong, first=None)
        refused(self, NoRest, summed, TRIANGLE, wrong, PULLED, second=None)
        refused(self, NoFraction, summed, TRIANGLE, PULLED, PULLED, first=(2, 2))
        refused(self, NoFraction, summed, TRIANGLE, PULLED, PULLED, second=1)
        with self.assertRaises(TypeError):
            summed(TRIANGLE, PULLED, PULLED, ONE, ONE)

    def test_by_other_reckoning(self):
        chance = random.Random(3)
        seen = 0
        for turn in range(60):
            plate = chance_plate(chance, chance.randint(3, 7))
            holding = chance_holding(chance, plate, 12)
            cases = []
            for at in range(2):
                held = tuple((way, ours(chance.randint(-3, 3))) for way in held_by(holding))
                loads = chance_motions(chance, plate)
                word, motions = paper(plate, held, loads)
                cases.append((held, loads, motions))
            if word == "none" or not is_rest(plate, *cases[0]):
                continue
            seen += 1
            first, second = (Fraction(chance.randint(-5, 5), chance.choice((1, 2, 3))) for at in range(2))
            told = summed(plate, cases[0], cases[1], first=ours(first), second=ours(second))
            self.assertTrue(is_rest(plate, *told))
            for at in (1, 2):
                right = [first * one + second * other for one, other in zip(*(all_theirs(case[at]) for case in cases))]
                self.assertEqual(told[at], our_row(right))
            pairs = zip(cases[0][0], cases[1][0])
            moves = [first * theirs(one) + second * theirs(other) for (way, one), (at, other) in pairs]
            self.assertEqual(told[0], tuple(zip(held_by(holding), our_row(moves))))
        self.assertGreater(seen, 10)

    def test_great_numbers(self):
        loads = our_row([0, 0, Fraction(GREATEST, GREAT), 0, GREATEST, Fraction(-1, GREATEST)])
        great = (AT_NOUGHT, loads, paper(TRIANGLE, AT_NOUGHT, loads)[1])
        told = summed(TRIANGLE, great, SHIFTED, first=ours(Fraction(1, GREAT)), second=ours(GREATEST))
        self.assertTrue(is_rest(TRIANGLE, *told))
        again = summed(TRIANGLE, told, told, first=ours(Fraction(GREAT, 7)), second=ours(Fraction(1, GREATEST)))
        self.assertTrue(is_rest(TRIANGLE, *again))


class Thickened(unittest.TestCase):
    def test_by_hand(self):
        self.assertEqual(thickened(SQUARE, 0, 9), SQUARE[:2] + ((9, 3),) + SQUARE[3:])
        self.assertEqual(thickened(SQUARE, 1, 1), SQUARE[:2] + ((2, 1),) + SQUARE[3:])
        self.assertEqual(thickened(SQUARE, 1, 3), SQUARE)
        self.assertEqual(SQUARE[2], (2, 3))

    def test_each_piece(self):
        for number in range(40):
            told = thickened(GRID, number, 9)
            self.assertTrue(is_plate(told))
            self.assertEqual(told[2][number], 9)
            self.assertEqual(told[2][:number] + told[2][number + 1:], GRID[2][:number] + GRID[2][number + 1:])

    def test_refusals_in_order(self):
        refused(self, NoPiece, thickened, SQUARE, 2, 10)
        refused(self, NoPiece, thickened, SQUARE, -1, 1)
        refused(self, NoThick, thickened, SQUARE, 1, 10)
        refused(self, NoThick, thickened, SQUARE, 1, 0)

    def test_a_thicker_piece_never_has_the_worth_be_less(self):
        chance = random.Random(4)
        for turn in range(25):
            plate = chance_plate(chance, chance.randint(3, 7))
            holding = tuple((way, NOUGHT) for way in firm_ways(chance, plate))
            loads = chance_motions(chance, plate)
            piece = chance.randrange(len(plate[1]))
            worths = [theirs(worth(thickened(plate, piece, thick), holding, loads)) for thick in range(1, 10)]
            self.assertEqual(worths, sorted(worths))


if __name__ == "__main__":
    unittest.main()
