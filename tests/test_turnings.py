"""Turnings of a plate, motions turned, and even motions."""

import random
import unittest
from fractions import Fraction
from itertools import permutations, product

from platerest.errors import NoMotions, NoTurning
from platerest.finer import finer
from platerest.plates import is_plate
from platerest.rests import is_rest, paper
from platerest.strains import worth_of
from platerest.turnings import even, is_turning, turned, turnings
from tests.shapes import (
    BOW, GRID, NOUGHT, PLATES, RING, SQUARE, TRIANGLE, all_theirs, chance_motions, chance_plate, wholes,
)
from tests.things import GREAT, GREATEST, our_row, ours, theirs
from tests.wrongs import no_turnings

SAME = (1, 0, 0, 1)
# A square with its middle: it falls on itself in all eight ways.
CROSS = (
    ((-2, -2), (2, -2), (2, 2), (-2, 2), (0, 0)), ((0, 1, 4), (0, 3, 4), (1, 2, 4), (2, 3, 4)), (3, 3, 3, 3), (2, 5),
)
# The same, but one piece is thicker, or two that lie across from one another.
THICK = CROSS[:2] + ((3, 3, 3, 4),) + CROSS[3:]
PAIRS = CROSS[:2] + ((3, 4, 4, 3),) + CROSS[3:]
# The same, moved away from the middle.
AWAY = (tuple((x + 30, y - 71) for x, y in CROSS[0]),) + CROSS[1:]
MATRICES = [row for row in product((-1, 0, 1), repeat=4)
            if [part for part in row if part] and sum(map(abs, row)) == 2 and abs(row[0]) == abs(row[3])
            and abs(row[1]) == abs(row[2]) and abs(row[0]) != abs(row[1])]


def right_turnings(plate):
    """All orders and matrices, tried one by one."""
    found = []
    thicks = dict(zip(plate[1], plate[2]))
    for order in permutations(range(len(plate[0]))):
        for matrix in MATRICES:
            a, b, c, d = matrix
            shifts = {(plate[0][goal][0] - a * x - b * y, plate[0][goal][1] - c * x - d * y)
                      for (x, y), goal in zip(plate[0], order)}
            led = {tuple(sorted(order[corner] for corner in piece)): thick for piece, thick in thicks.items()}
            if len(shifts) == 1 and led == thicks:
                found.append((order, matrix))
    return sorted(found)


def mirrored(plate):
    """Two of a plate beside one another, the second one as in a mirror."""
    wide = max(x for x, y in plate[0]) + 1
    many = len(plate[0])
    corners = plate[0] + tuple((2 * wide - x, y) for x, y in plate[0])
    pieces = plate[1] + tuple(tuple(corner + many for corner in piece) for piece in plate[1])
    return (corners, pieces, plate[2] * 2, plate[3])


class Turnings(unittest.TestCase):
    def test_matrices(self):
        self.assertEqual(len(MATRICES), 8)
        self.assertEqual(sorted(matrix for order, matrix in turnings(CROSS)), sorted(MATRICES))

    def test_by_hand(self):
        self.assertEqual(turnings(TRIANGLE), [((0, 1, 2), SAME), ((0, 2, 1), (0, 1, 1, 0))])
        self.assertEqual(turnings(SQUARE), [((0, 1, 2, 3), SAME), ((0, 2, 1, 3), (0, 1, 1, 0))])
        alike = SQUARE[:2] + ((2, 2),) + SQUARE[3:]
        self.assertEqual(turnings(alike), [
            ((0, 1, 2, 3), SAME), ((0, 2, 1, 3), (0, 1, 1, 0)), ((3, 1, 2, 0), (0, -1, -1, 0)),
            ((3, 2, 1, 0), (-1, 0, 0, -1)),
        ])
        self.assertEqual(turnings(BOW), [
            ((0, 1, 2, 3, 4), SAME), ((0, 2, 1, 4, 3), (1, 0, 0, -1)), ((0, 3, 4, 1, 2), (-1, 0, 0, 1)),
            ((0, 4, 3, 2, 1), (-1, 0, 0, -1)),
        ])
        self.assertEqual(turnings(CROSS), [
            ((0, 1, 2, 3, 4), SAME), ((0, 3, 2, 1, 4), (0, 1, 1, 0)), ((1, 0, 3, 2, 4), (-1, 0, 0, 1)),
            ((1, 2, 3, 0, 4), (0, -1, 1, 0)), ((2, 1, 0, 3, 4), (0, -1, -1, 0)), ((2, 3, 0, 1, 4), (-1, 0, 0, -1)),
            ((3, 0, 1, 2, 4), (0, 1, -1, 0)), ((3, 2, 1, 0, 4), (1, 0, 0, -1)),
        ])

    def test_thicknesses_count(self):
        self.assertEqual(turnings(THICK), [((0, 1, 2, 3, 4), SAME), ((1, 0, 3, 2, 4), (-1, 0, 0, 1))])
        self.assertEqual([order for order, matrix in turnings(PAIRS)],
                         [(0, 1, 2, 3, 4), (1, 0, 3, 2, 4), (2, 3, 0, 1, 4), (3, 2, 1, 0, 4)])
        self.assertEqual(turnings(RING), [(tuple(range(8)), SAME)])

    def test_shifts(self):
        self.assertEqual(turnings(AWAY), turnings(CROSS))

    def test_pieces_count(self):
        holed = CROSS[:1] + (CROSS[1][:3], (3, 3, 3), CROSS[3])
        self.assertTrue(is_plate(holed))
        self.assertEqual(turnings(holed), [((0, 1, 2, 3, 4), SAME), ((1, 0, 3, 2, 4), (-1, 0, 0, 1))])

    def test_by_trying_all(self):
        chance = random.Random(1)
        plates = [TRIANGLE, SQUARE, BOW, CROSS, THICK, PAIRS, AWAY, PLATES[3]]
        plates += [chance_plate(chance, chance.randint(3, 5), 2) for turn in range(40)]
        plates += [mirrored(chance_plate(chance, 3, 3)) for turn in range(10)]
        plates += [plate[:2] + ((1,) * len(plate[1]),) + plate[3:] for plate in plates]
        seen = 0
        for plate in plates:
            self.assertTrue(is_plate(plate))
            told = turnings(plate)
            self.assertIs(type(told), list)
            self.assertEqual(told, right_turnings(plate))
            self.assertTrue(all(is_turning(plate, turning) for turning in told))
            seen += len(told) > 1
        self.assertGreater(seen, 20)

    def test_the_greatest_plate(self):
        self.assertEqual(turnings(GRID), [(tuple(range(30)), SAME)])
        even_grid = (tuple((20 * x - 50, 20 * y - 40) for y in range(5) for x in range(6)), GRID[1], (2,) * 40, (1, 1))
        self.assertEqual([matrix for order, matrix in turnings(even_grid)], [SAME, (-1, 0, 0, -1)])

    def test_of_anything(self):
        for thing in no_turnings():
            self.assertIs(is_turning(SQUARE, thing), False)
        self.assertIs(is_turning(SQUARE, ((0, 2, 1, 3), (0, 1, 1, 0))), True)
        for order, matrix in turnings(CROSS):
            self.assertIs(is_turning(CROSS, (order, matrix)), True)
            for other in MATRICES:
                if other != matrix:
                    self.assertIs(is_turning(CROSS, (order, other)), False)
        for order in permutations(range(5)):
            told = [matrix for matrix in MATRICES if is_turning(CROSS, (order, matrix))]
            self.assertEqual(told, [matrix for other, matrix in turnings(CROSS) if other == order])


class Turned(unittest.TestCase):
    def test_by_hand(self):
        motions = wholes(1, 2, 3, 4, 5, 6)
        self.assertEqual(turned(TRIANGLE, ((0, 1, 2), SAME), motions), motions)
        self.assertEqual(turned(TRIANGLE, ((0, 2, 1), (0, 1, 1, 0)), motions), wholes(2, 1, 6, 5, 4, 3))
        motions = wholes(1, 2, 3, 4, 5, 6, 7, 8, 0, 10)
        quarter = ((1, 2, 3, 0, 4), (0, -1, 1, 0))
        self.assertEqual(turned(CROSS, quarter, motions), wholes(-8, 7, -2, 1, -4, 3, -6, 5, -10, 0))
        back = ((3, 0, 1, 2, 4), (0, 1, -1, 0))
        self.assertEqual(turned(CROSS, back, wholes(-8, 7, -2, 1, -4, 3, -6, 5, -10, 0)), motions)
        half = ((2, 3, 0, 1, 4), (-1, 0, 0, -1))
        self.assertEqual(turned(CROSS, half, motions), wholes(-5, -6, -7, -8, -1, -2, -3, -4, 0, -10))
        self.assertEqual(turned(CROSS, ((1, 0, 3, 2, 4), (-1, 0, 0, 1)), motions),
                         wholes(-3, 4, -1, 2, -7, 8, -5, 6, 0, 10))

    def test_the_order_of_refusals(self):
        with self.assertRaises(NoTurning):
            turned(THICK, ((1, 2, 3, 0, 4), (0, -1, 1, 0)), None)
        with self.assertRaises(NoMotions):
            turned(CROSS, ((1, 2, 3, 0, 4), (0, -1, 1, 0)), None)

    def test_turned_motions_are_worth_the_same(self):
        chance = random.Random(2)
        for plate in (TRIANGLE, SQUARE, BOW, CROSS, THICK, AWAY, finer(CROSS)):
            motions = chance_motions(chance, plate)
            for turning in turnings(plate):
                self.assertEqual(worth_of(plate, turned(plate, turning, motions)), worth_of(plate, motions))

    def test_great_numbers(self):
        motions = our_row(Fraction(GREATEST - way, GREAT + way) for way in range(10))
        for turning in turnings(CROSS):
            told = turned(CROSS, turning, motions)
            order, (a, b, c, d) = turning
            for corner, goal in enumerate(order):
                u, v = theirs(motions[2 * corner]), theirs(motions[2 * corner + 1])
                self.assertEqual(told[2 * goal:2 * goal + 2], our_row([a * u + b * v, c * u + d * v]))


class Even(unittest.TestCase):
    def test_by_hand(self):
        self.assertEqual(even(TRIANGLE, wholes(1, 2, 3, 4, 5, 6)), ((3, 2),) * 2 + ((9, 2), (9, 2)) * 2)
        self.assertEqual(even(RING, wholes(*range(16))), wholes(*range(16)))
        self.assertEqual(even(CROSS, wholes(1, 0, 0, 0, 0, 0, 0, 0, 5, 7)),
                         our_row([Fraction(1, 8), Fraction(1, 8), Fraction(-1, 8), Fraction(1, 8), Fraction(-1, 8),
                                  Fraction(-1, 8), Fraction(1, 8), Fraction(-1, 8), 0, 0]))

    def test_even_motions_are_left_by_all(self):
        chance = random.Random(3)
        for plate in (TRIANGLE, SQUARE, BOW, CROSS, THICK, AWAY, finer(CROSS)):
            motions = chance_motions(chance, plate)
            told = even(plate, motions)
            rows = [all_theirs(turned(plate, turning, motions)) for turning in turnings(plate)]
            self.assertEqual(told, our_row(sum(parts) / len(rows) for parts in zip(*rows)))
            for turning in turnings(plate):
                self.assertEqual(turned(plate, turning, told), told)
            self.assertEqual(even(plate, told), told)


class Promises(unittest.TestCase):
    def test_what_turns_a_plate_turns_its_rests(self):
        chance = random.Random(4)
        seen = {"rest": 0, "none": 0}
        for plate in (TRIANGLE, SQUARE, BOW, CROSS, THICK, AWAY, finer(CROSS)) * 4:
            many = 2 * len(plate[0])
            held = sorted(chance.sample(range(many), chance.randint(0, many // 2)))
            holding = tuple((way, ours(chance.randint(-2, 2))) for way in held)
            loads = chance_motions(chance, plate)
            word, motions = paper(plate, holding, loads)
            seen[word] += 1
            for turning in turnings(plate):
                over, loaded = self.turned_holding(plate, turning, holding), turned(plate, turning, loads)
                self.assertEqual(paper(plate, over, loaded)[0], word)
                if word == "rest":
                    self.assertTrue(is_rest(plate, over, loaded, turned(plate, turning, motions)))
        self.assertGreater(min(seen.values()), 3)

    def turned_holding(self, plate, turning, holding):
        """A held way leads to the way along which it is turned, with its move's sign."""
        found = []
        for way, move in holding:
            moved = [NOUGHT] * (2 * len(plate[0]))
            moved[way] = (1, 1)
            told = turned(plate, turning, tuple(moved))
            goal = next(at for at, part in enumerate(told) if part != NOUGHT)
            found.append((goal, ours(theirs(move) * theirs(told[goal]))))
        return tuple(sorted(found))

    def test_what_is_even_has_an_even_rest(self):
        holding = tuple((way, NOUGHT) for way in range(8, 10))
        loads = even(CROSS, wholes(3, 1, 0, 0, 0, 0, 0, 0, 0, 0))
        word, motions = paper(CROSS, holding, loads)
        self.assertEqual(word, "rest")
        self.assertTrue(is_rest(CROSS, holding, loads, even(CROSS, motions)))


if __name__ == "__main__":
    unittest.main()
