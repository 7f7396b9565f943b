"""Free motions: which motions strain nothing."""

import random
import unittest
from fractions import Fraction

from platerest.frees import firm, free_motions, free_ways, is_free
from platerest.quotients import is_fraction
from platerest.strains import stresses
from tests.shapes import (
    APART, BOW, GRID, NOUGHT, ONE, PLATES, RING, SQUARE, TRIANGLE, all_theirs, chance_plate, right_strain, strain_table,
    tower, wholes,
)
from tests.things import GREAT, GREATEST, no_fractions, no_wholes, our_row, right_frees


def shift_and_turn(plate, along, across, about):
    """The motions of a plate that is shifted and turned as a whole."""
    return our_row(part for x, y in plate[0] for part in (along - about * y, across + about * x))


def is_right(plate, held, motions):
    """Whether motions are free, by how they rise over each piece."""
    numbers = all_theirs(motions)
    strains = [right_strain(plate, numbers, piece) for piece in range(len(plate[1]))]
    return all(part == 0 for three in strains for part in three) and all(numbers[way] == 0 for way in held)


class Told(unittest.TestCase):
    def looked_through(self, plate, held, ways):
        told = free_motions(plate, held)
        self.assertIs(type(told), list)
        self.assertEqual(free_ways(plate, held), ways)
        self.assertEqual(len(told), len(ways))
        for way, motions in zip(ways, told):
            self.assertIs(type(motions), tuple)
            self.assertTrue(all(is_fraction(part) for part in motions))
            self.assertTrue(is_right(plate, held, motions))
            self.assertIs(is_free(plate, held, motions), True)
            self.assertEqual([motions[at] for at in ways], [ONE if at == way else NOUGHT for at in ways])
        self.assertIs(firm(plate, held), ways == ())
        self.firm_where_held_too(plate, held, ways)

    def firm_where_held_too(self, plate, held, ways):
        both = tuple(sorted(held + ways))
        self.assertIs(firm(plate, both), True)
        self.assertEqual((free_motions(plate, both), free_ways(plate, both)), ([], ()))

    def test_by_hand(self):
        self.assertEqual(free_ways(TRIANGLE), (3, 4, 5))
        self.assertEqual(free_motions(TRIANGLE), [
            wholes(1, 0, 1, 1, 0, 0), wholes(1, 0, 1, 0, 1, 0), wholes(-1, 1, -1, 0, 0, 1)])
        self.assertEqual(free_ways(TRIANGLE, (0,)), (4, 5))
        self.assertEqual(free_motions(TRIANGLE, (0,)), [wholes(0, 0, 0, -1, 1, 0), wholes(0, 1, 0, 1, 0, 1)])
        self.assertEqual(free_motions(TRIANGLE, (5,)), [wholes(1, 0, 1, 1, 0, 0), wholes(1, 0, 1, 0, 1, 0)])
        self.assertEqual(free_motions(TRIANGLE, (0, 1, 2)), [wholes(0, 0, 0, -1, 1, 0)])
        self.assertEqual(free_motions(TRIANGLE, (0, 1, 3)), [])

    def test_firm_by_hand(self):
        self.assertIs(firm(TRIANGLE), False)
        self.assertIs(firm(TRIANGLE, (0, 1)), False)
        self.assertIs(firm(TRIANGLE, (0, 1, 2)), False)
        self.assertIs(firm(TRIANGLE, (0, 1, 3)), True)
        self.assertIs(firm(TRIANGLE, (1, 3, 5)), False)
        self.assertIs(firm(TRIANGLE, (0, 3, 4)), True)
        self.assertIs(firm(TRIANGLE, (0, 1, 2, 3, 4, 5)), True)
        self.assertIs(firm(BOW, (0, 1, 3)), False)
        self.assertIs(firm(BOW, (0, 1, 3, 7)), True)
        self.assertIs(firm(BOW, (2, 3, 4)), False)

    def test_how_many(self):
        for plate, many in ((TRIANGLE, 3), (SQUARE, 3), (BOW, 4), (APART, 6), (RING, 3), (GRID, 3)):
            self.assertEqual(len(free_motions(plate)), many)
            self.assertEqual(len(free_ways(plate)), many)

    def test_by_the_meaning_of_free_places(self):
        chance = random.Random(40)
        for plate in (TRIANGLE, SQUARE, BOW, APART, RING):
            many = 2 * len(plate[0])
            for at in range(6):
                held = tuple(sorted(chance.sample(range(many), chance.randint(0, 5))))
                self.looked_through(plate, held, right_frees(strain_table(plate, held), many))

    def test_by_chance(self):
        chance = random.Random(41)
        words = []
        for at in range(30):
            plate = chance_plate(chance, chance.randint(3, 7))
            many = 2 * len(plate[0])
            held = tuple(sorted(chance.sample(range(many), chance.choice((0, 1, 2, 3, 4, many // 2)))))
            self.looked_through(plate, held, right_frees(strain_table(plate, held), many))
            words.append(firm(plate, held))
        self.assertGreater(words.count(True), 3)
        self.assertGreater(words.count(False), 3)

    def test_shifts_and_turnings_are_mixes_of_the_told_ones(self):
        for plate in PLATES:
            ways, told = free_ways(plate), [all_theirs(motions) for motions in free_motions(plate)]
            for whole in (shift_and_turn(plate, 1, 0, 0), shift_and_turn(plate, 0, 1, 0), shift_and_turn(plate, 2, 3, 5)):
                numbers = all_theirs(whole)
                mix = [sum(numbers[way] * motions[at] for way, motions in zip(ways, told)) for at in range(len(numbers))]
                self.assertEqual(mix, numbers)

    def test_all_held(self):
        for plate in PLATES:
            held = tuple(range(2 * len(plate[0])))
            self.assertEqual((free_motions(plate, held), free_ways(plate, held)), ([], ()))
            self.assertIs(firm(plate, held), True)

    def test_more_rows_than_sixty(self):
        """120 rows of strains and as many of held ways as there are."""
        for plate, held in ((GRID, ()), (tower(40), ()), (GRID, (0, 30, 59)), (GRID, tuple(range(0, 60, 2)))):
            self.looked_through(plate, held, right_frees(strain_table(plate, held), 2 * len(plate[0])))
        self.assertEqual(free_ways(GRID, tuple(range(57))), ())
        self.assertEqual(free_ways(GRID, tuple(range(0, 60, 2))), (59,))

    def test_chains(self):
        """Ten triangles, each with one corner in common with the next: nine joints."""
        corners = tuple((4 * at, 0) for at in range(11)) + tuple((4 * at + 1, 3) for at in range(10))
        plate = (corners, tuple((at, at + 1, at + 11) for at in range(10)), (1,) * 10, (1, 1))
        self.assertEqual(len(free_ways(plate)), 3 + 9)
        self.assertEqual(len(free_ways(plate, (0, 1, 21))), 9)
        for motions in free_motions(plate, (0, 1, 21)):
            self.assertTrue(is_right(plate, (0, 1, 21), motions))

    def test_many_parts(self):
        corners = tuple((10 * at + x, y) for at in range(10) for x, y in ((0, 0), (1, 0), (0, 1)))
        plate = (corners, tuple((at, at + 1, at + 2) for at in range(0, 30, 3)), (1,) * 10, (1, 1))
        self.assertEqual(free_ways(plate), tuple(6 * at + way for at in range(10) for way in (3, 4, 5)))

    def test_thicknesses_and_stuff_are_nothing_to_it(self):
        for stuff in ((0, 1), (9, 9)):
            plate = RING[:2] + ((9,) * 8, stuff)
            self.assertEqual(free_motions(plate, (3,)), free_motions(RING, (3,)))


class IsFree(unittest.TestCase):
    def test_right_ones(self):
        for plate in PLATES:
            self.assertIs(is_free(plate, (), (NOUGHT,) * (2 * len(plate[0]))), True)
            for parts in ((1, 0, 0), (0, 1, 0), (0, 0, 1), (Fraction(1, 3), -2, Fraction(7, 5)), (GREAT, 1, GREATEST)):
                self.assertIs(is_free(plate, (), shift_and_turn(plate, *parts)), True)

    def test_joints(self):
        """One wing of the bow turns about the corner in common, the other one stays."""
        motions = wholes(0, 0, -1, 2, 1, 2, 0, 0, 0, 0)
        self.assertIs(is_free(BOW, (), motions), True)
        self.assertIs(is_free(BOW, (0, 1, 6, 7), motions), True)
        self.assertIs(is_free(BOW, (2,), motions), False)
        self.assertIs(is_free(BOW, (), wholes(0, 0, -1, 2, 1, 3, 0, 0, 0, 0)), False)
        self.assertIs(is_free(BOW, (), wholes(1, 0, -1, 2, 1, 2, 0, 0, 0, 0)), False)

    def test_held_ways(self):
        self.assertIs(is_free(TRIANGLE, (1,), wholes(1, 0, 1, 0, 1, 0)), True)
        self.assertIs(is_free(TRIANGLE, (1, 3, 5), wholes(1, 0, 1, 0, 1, 0)), True)
        for held in ((0,), (2,), (4,), (1, 2), (0, 1, 2, 3, 4, 5)):
            self.assertIs(is_free(TRIANGLE, held, wholes(1, 0, 1, 0, 1, 0)), False)

    def test_each_piece_and_each_part_of_a_strain_counts(self):
        for motions in (wholes(0, 0, 1, 0, 0, 0), wholes(0, 0, 0, 0, 0, 1), wholes(0, 0, 0, 0, 1, 0)):
            self.assertIs(is_free(TRIANGLE, (), motions), False)
        for way in range(60):
            motions = tuple((int(at == way), 7) if at == way else NOUGHT for at in range(60))
            self.assertIs(is_free(GRID, (), motions), False)

    def test_a_little_is_too_much(self):
        motions = wholes(0, 0, 0, 0, 0) + ((1, GREATEST),)
        self.assertIs(is_free(TRIANGLE, (), motions), False)

    def test_of_anything(self):
        right = wholes(1, 0, 1, 0, 1, 0)
        for thing in no_fractions() + no_wholes():
            self.assertIs(is_free(TRIANGLE, (), thing), False)
            self.assertIs(is_free(TRIANGLE, (1,), right[:5] + (thing,)), False)
        for thing in (right[:5], right + (NOUGHT,), list(right), (0,) * 6, ((0, 2),) * 6, dict(enumerate(right))):
            self.assertIs(is_free(TRIANGLE, (), thing), False)

    def test_the_same_as_no_stresses(self):
        for plate in PLATES:
            for motions in free_motions(plate, (1,)):
                self.assertEqual(stresses(plate, motions), (wholes(0, 0, 0),) * len(plate[1]))


if __name__ == "__main__":
    unittest.main()
