"""Strains, stresses, pushes, and what pieces are worth."""

import random
import unittest
from fractions import Fraction

from platerest.quotients import is_fraction
from platerest.strains import are_stresses, pushes, strain, stress, stress_worth, stresses, worth_of
from tests.shapes import (
    BOW, GRID, NOUGHT, PLATES, RING, SQUARE, TRIANGLE, all_theirs, chance_motions, chance_plate, right_pushes,
    right_strain, right_stress, right_stresses, right_worth, volume, wholes,
)
from tests.things import GREAT, GREATEST, no_fractions, no_wholes, our_row, ours, theirs


def motions_by(plate, field):
    """Motions by a rule that tells (u, v) of a corner's x and y."""
    return our_row(part for corner in plate[0] for part in field(*corner))


def chance_stresses(chance, plate):
    return tuple(
        our_row(Fraction(chance.randint(-9, 9), chance.choice((1, 2, 3, 5))) for part in range(3))
        for piece in plate[1]
    )


def by_chance(seed, many):
    """Plates by chance, and motions of them."""
    chance = random.Random(seed)
    for at in range(many):
        plate = chance_plate(chance, chance.randint(3, 9))
        yield chance, plate, chance_motions(chance, plate)


class Strain(unittest.TestCase):
    def test_by_hand(self):
        self.assertEqual(strain(TRIANGLE, wholes(0, 0, 1, 0, 0, 0), 0), wholes(1, 0, 0))
        self.assertEqual(strain(TRIANGLE, wholes(0, 0, 0, 0, 0, 1), 0), wholes(0, 1, 0))
        self.assertEqual(strain(TRIANGLE, wholes(0, 0, 0, 1, 0, 0), 0), wholes(0, 0, 1))
        self.assertEqual(strain(TRIANGLE, wholes(0, 0, 0, 0, 1, 0), 0), wholes(0, 0, 1))
        self.assertEqual(strain(TRIANGLE, wholes(1, 0, 0, 0, 0, 0), 0), wholes(-1, 0, -1))
        self.assertEqual(strain(TRIANGLE, wholes(0, 1, 0, 0, 0, 0), 0), wholes(0, -1, -1))
        self.assertEqual(strain(TRIANGLE, ((1, 2), (1, 3), (2, 1), NOUGHT, NOUGHT, (-1, 1)), 0), (
            (3, 2), (-4, 3), (-5, 6)))

    def test_of_each_piece(self):
        motions = wholes(0, 0, 0, 0, 0, 0, 2, 0)
        self.assertEqual(strain(SQUARE, motions, 0), (NOUGHT,) * 3)
        self.assertEqual(strain(SQUARE, motions, 1), wholes(2, 0, 2))

    def test_motions_that_rise_evenly(self):
        """By u = 1 + 2 x + 3 y, v = 4 - 5 x + 7 y the strain is (2, 7, 3 - 5) all over."""
        for plate in PLATES:
            motions = motions_by(plate, lambda x, y: (1 + 2 * x + 3 * y, 4 - 5 * x + 7 * y))
            for piece in range(len(plate[1])):
                self.assertEqual(strain(plate, motions, piece), wholes(2, 7, -2))

    def test_shifts_and_turnings_strain_nothing(self):
        for plate in PLATES:
            motions = motions_by(plate, lambda x, y: (Fraction(5, 3) - 2 * y, 2 * x - 9))
            for piece in range(len(plate[1])):
                self.assertEqual(strain(plate, motions, piece), (NOUGHT,) * 3)

    def test_the_order_of_corners_is_nothing_to_it(self):
        for corners in (((0, 0), (4, 0), (0, 3)), ((0, 0), (0, 3), (4, 0)), ((4, 0), (0, 3), (0, 0))):
            plate = (corners, ((0, 1, 2),), (1,), (1, 1))
            motions = motions_by(plate, lambda x, y: (Fraction(x, 2) + y, 3 * x))
            self.assertEqual(strain(plate, motions, 0), ((1, 2), NOUGHT, (4, 1)))

    def test_by_chance(self):
        for chance, plate, motions in by_chance(30, 40):
            numbers = all_theirs(motions)
            for piece in range(len(plate[1])):
                self.assertEqual(strain(plate, motions, piece), our_row(right_strain(plate, numbers, piece)))
                self.assertEqual(stress(plate, motions, piece), our_row(right_stress(plate, numbers, piece)))

    def test_great_numbers(self):
        motions = ((GREATEST, GREAT), (1, GREATEST), (-GREATEST, 1), (GREAT, 3), (GREAT, 2), (-1, GREAT))
        motions = tuple(ours(theirs(part)) for part in motions)
        self.assertEqual(strain(TRIANGLE, motions, 0), our_row(right_strain(TRIANGLE, all_theirs(motions), 0)))
        self.assertEqual(stress(TRIANGLE, motions, 0), our_row(right_stress(TRIANGLE, all_theirs(motions), 0)))


class Stress(unittest.TestCase):
    def test_by_hand(self):
        motions = wholes(0, 0, 1, 0, 0, 0)
        for stuff, right in (((1, 1), (3, 1, 0)), ((0, 1), (2, 0, 0)), ((9, 2), (13, 9, 0))):
            self.assertEqual(stress(TRIANGLE[:3] + (stuff,), motions, 0), wholes(*right))
        motions = wholes(0, 0, 1, 2, 3, -4)
        for stuff, right in (((1, 1), (-1, -11, 5)), ((0, 1), (2, -8, 5)), ((2, 3), (0, -30, 15))):
            self.assertEqual(stress(TRIANGLE[:3] + (stuff,), motions, 0), wholes(*right))

    def test_the_thickness_is_nothing_to_it(self):
        motions = wholes(0, 0, 1, 2, 3, -4)
        for thick in (1, 5, 9):
            self.assertEqual(stress(TRIANGLE[:2] + ((thick,), (1, 1)), motions, 0), wholes(-1, -11, 5))

    def test_of_all_pieces(self):
        self.assertEqual(stresses(TRIANGLE, wholes(0, 0, 1, 0, 0, 0)), (wholes(3, 1, 0),))
        self.assertEqual(stresses(SQUARE, wholes(0, 0, 0, 0, 0, 0, 2, 0)), (wholes(0, 0, 0), wholes(10, 2, 4)))
        for chance, plate, motions in by_chance(31, 15):
            told = stresses(plate, motions)
            self.assertEqual(told, tuple(stress(plate, motions, piece) for piece in range(len(plate[1]))))
            self.assertIs(are_stresses(plate, told), True)


class AreStresses(unittest.TestCase):
    def test_right_ones(self):
        self.assertIs(are_stresses(TRIANGLE, (wholes(0, 0, 0),)), True)
        self.assertIs(are_stresses(SQUARE, (wholes(0, 5, 0), ((-1, 2), (3, 7), NOUGHT))), True)
        self.assertIs(are_stresses(SQUARE, (wholes(GREAT, 5, 0), ((1, GREATEST), (3, 7), NOUGHT))), True)

    def test_wrong_ones(self):
        for thing in no_wholes() + no_fractions() + [0, (wholes(1, 2, 3),), (wholes(1, 2, 3),) * 3]:
            self.assertIs(are_stresses(SQUARE, thing), False)
            self.assertIs(are_stresses(SQUARE, (wholes(1, 2, 3), thing)), False)
            self.assertIs(are_stresses(SQUARE, (thing, wholes(1, 2, 3))), False)
        for thing in no_fractions():
            for at in range(3):
                three = wholes(1, 2)[:at] + (thing,) + wholes(1, 2)[at:]
                self.assertIs(are_stresses(SQUARE, (wholes(1, 2, 3), three)), False)
        self.assertIs(are_stresses(SQUARE, [wholes(1, 2, 3), wholes(1, 2, 3)]), False)
        self.assertIs(are_stresses(SQUARE, (wholes(1, 2, 3), list(wholes(1, 2, 3)))), False)
        self.assertIs(are_stresses(SQUARE, (wholes(1, 2, 3), wholes(1, 2))), False)
        self.assertIs(are_stresses(SQUARE, (wholes(1, 2, 3), wholes(1, 2, 3, 4))), False)


class Pushes(unittest.TestCase):
    def test_by_hand(self):
        half = Fraction(1, 2)
        self.assertEqual(pushes(TRIANGLE, (wholes(3, 1, 0),)), our_row((-3 * half, -half, 3 * half, 0, 0, half)))
        self.assertEqual(pushes(TRIANGLE, (wholes(0, 0, 1),)), our_row((-half, -half, 0, half, half, 0)))
        thick = TRIANGLE[:2] + ((6,), (1, 1))
        self.assertEqual(pushes(thick, (wholes(3, 1, 0),)), wholes(-9, -3, 9, 0, 0, 3))

    def test_corners_that_go_round_with_the_clock(self):
        plate = (((0, 0), (0, 1), (1, 0)), ((0, 1, 2),), (2,), (1, 1))
        self.assertEqual(pushes(plate, (wholes(3, 1, 0),)), wholes(-3, -1, 0, 1, 3, 0))

    def test_a_side_in_common(self):
        plate = SQUARE[:2] + ((2, 2), (1, 2))
        self.assertEqual(pushes(plate, (wholes(1, 0, 0),) * 2), wholes(-1, 0, 1, 0, -1, 0, 1, 0))
        self.assertEqual(pushes(SQUARE, (wholes(2, 0, 0), wholes(0, 4, 2))), wholes(-2, 0, 2 - 3, -6, 0, -3, 3, 9))

    def test_by_the_work_on_each_way(self):
        for chance, plate, motions in by_chance(32, 25):
            given = chance_stresses(chance, plate)
            self.assertEqual(pushes(plate, given), our_row(right_pushes(plate, [all_theirs(part) for part in given])))
            given = stresses(plate, motions)
            right = right_pushes(plate, right_stresses(plate, all_theirs(motions)))
            self.assertEqual(pushes(plate, given), our_row(right))

    def test_they_come_to_nought_together(self):
        for plate in PLATES:
            told = all_theirs(pushes(plate, chance_stresses(random.Random(33), plate)))
            self.assertEqual((sum(told[::2]), sum(told[1::2])), (0, 0))
            about = sum(x * told[2 * at + 1] - y * told[2 * at] for at, (x, y) in enumerate(plate[0]))
            self.assertEqual(about, 0)

    def test_noughts(self):
        for plate in PLATES:
            self.assertEqual(pushes(plate, (wholes(0, 0, 0),) * len(plate[1])), (NOUGHT,) * (2 * len(plate[0])))

    def test_great_numbers(self):
        given = (((GREATEST, GREAT), (1, GREATEST), (-GREATEST, 1)), ((1, GREAT), (GREAT, 2), (-1, GREAT)))
        given = tuple(tuple(ours(theirs(part)) for part in three) for three in given)
        right = right_pushes(SQUARE, [all_theirs(part) for part in given])
        self.assertEqual(pushes(SQUARE, given), our_row(right))


class Worth(unittest.TestCase):
    def test_by_hand(self):
        self.assertEqual(worth_of(TRIANGLE, wholes(0, 0, 1, 0, 0, 0)), (3, 4))
        self.assertEqual(stress_worth(TRIANGLE, (wholes(3, 1, 0),)), (3, 4))
        self.assertEqual(worth_of(TRIANGLE[:2] + ((8,), (1, 1)), wholes(0, 0, 1, 0, 0, 0)), (6, 1))
        self.assertEqual(worth_of(SQUARE, wholes(0, 0, 0, 0, 0, 0, 2, 0)), (21, 1))
        self.assertEqual(worth_of(TRIANGLE, ((0, 1), (0, 1), (1, 2), (0, 1), (0, 1), (0, 1))), (3, 16))
        self.assertEqual(stress_worth(TRIANGLE, (wholes(0, 0, 2),)), (1, 1))

    def test_noughts(self):
        for plate in PLATES:
            self.assertEqual(worth_of(plate, (NOUGHT,) * (2 * len(plate[0]))), NOUGHT)
            self.assertEqual(worth_of(plate, motions_by(plate, lambda x, y: (3 - y, x + 8))), NOUGHT)
            self.assertEqual(stress_worth(plate, (wholes(0, 0, 0),) * len(plate[1])), NOUGHT)

    def test_no_sideways(self):
        """With l nought a stress is 2 m e, 2 m f, m g, so its worth is plain to see."""
        self.assertEqual(stress_worth(BOW, (wholes(2, 0, 0), wholes(0, 0, 0))), ours(Fraction(2 * 1 * 2, 2)))
        self.assertEqual(stress_worth(BOW, (wholes(0, 0, 0), wholes(0, 4, 3))), ours(Fraction(2 * (4 * 2 + 3 * 3), 2)))

    def test_by_chance(self):
        for chance, plate, motions in by_chance(34, 30):
            right = right_worth(plate, all_theirs(motions))
            told = worth_of(plate, motions)
            self.assertEqual(told, ours(right))
            self.assertTrue(is_fraction(told))
            self.assertEqual(stress_worth(plate, stresses(plate, motions)), told)
            self.assertGreaterEqual(right, 0)

    def test_stresses_that_come_of_no_motions(self):
        for chance, plate, motions in by_chance(35, 20):
            given = chance_stresses(chance, plate)
            self.assertEqual(stress_worth(plate, given), ours(self.by_strains(plate, given)))

    def by_strains(self, plate, given):
        """As the document tells it, letter by letter."""
        l, m = plate[3]
        total = Fraction(0)
        for piece, three in enumerate(given):
            p, q, r = all_theirs(three)
            s = (p + q) / (2 * l + 2 * m)
            e, f, g = (p - l * s) / (2 * m), (q - l * s) / (2 * m), r / m
            total += volume(plate, piece) / 2 * (p * e + q * f + r * g)
        return total

    def test_more_than_nought_where_something_strains(self):
        for way in range(16):
            motions = tuple((int(at == way), 1) for at in range(16))
            self.assertGreater(theirs(worth_of(RING, motions)), 0)

    def test_great_numbers(self):
        motions = ((GREATEST, GREAT), (1, GREATEST), (-GREATEST, 1), (GREAT, 3), (GREAT, 2), (-1, GREAT))
        motions = tuple(ours(theirs(part)) for part in motions)
        self.assertEqual(worth_of(TRIANGLE, motions), ours(right_worth(TRIANGLE, all_theirs(motions))))
        self.assertEqual(stress_worth(TRIANGLE, stresses(TRIANGLE, motions)), worth_of(TRIANGLE, motions))

    def test_the_greatest_plate(self):
        motions = chance_motions(random.Random(36), GRID)
        self.assertEqual(worth_of(GRID, motions), ours(right_worth(GRID, all_theirs(motions))))
        self.assertEqual(stress_worth(GRID, stresses(GRID, motions)), worth_of(GRID, motions))
        right = right_pushes(GRID, right_stresses(GRID, all_theirs(motions)))
        self.assertEqual(pushes(GRID, stresses(GRID, motions)), our_row(right))


class Kinds(unittest.TestCase):
    def test_tuples_of_fractions(self):
        motions = chance_motions(random.Random(37), SQUARE)
        given = stresses(SQUARE, motions)
        rows = [strain(SQUARE, motions, 1), stress(SQUARE, motions, 1), pushes(SQUARE, given)] + list(given)
        for row in rows:
            self.assertIs(type(row), tuple)
            self.assertTrue(all(is_fraction(part) for part in row))
        self.assertIs(type(given), tuple)
        self.assertEqual([len(row) for row in rows], [3, 3, 8, 3, 3])
        self.assertTrue(is_fraction(worth_of(SQUARE, motions)) and is_fraction(stress_worth(SQUARE, given)))


if __name__ == "__main__":
    unittest.main()
