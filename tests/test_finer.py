"""Plates cut finer, motions and loads carried over."""

import random
import unittest

from platerest.bounds import worth
from platerest.errors import NoLoads, NoMotions, NoPlate, TooMany
from platerest.finer import carried, finer, loads_over
from platerest.frees import free_ways
from platerest.plates import is_plate, room, sides
from platerest.rests import paper
from platerest.strains import strain, worth_of
from tests.shapes import (
    APART, BOW, GRID, NOUGHT, RING, SQUARE, TRIANGLE, all_theirs, chance_holding, chance_motions, chance_plate,
    right_worth, tower, turned, wholes,
)
from tests.things import GREAT, GREATEST, ours, theirs


def wheel(spokes):
    """Rim points round a middle, and a piece between each two."""
    round_points = ((4, 0), (3, 3), (0, 4), (-3, 3), (-4, 0), (-3, -3), (0, -4), (3, -3))
    corners = ((0, 0),) + round_points[:spokes + 1]
    pieces = tuple((0, at, at + 1) for at in range(1, len(corners) - 1))
    return (corners, pieces, (1,) * len(pieces), (1, 1))


def crowded():
    """Eleven pieces of nine corners: cut finer there would be 28 corners, which may be, but 44 pieces."""
    corners = ((-10, -10), (10, -10), (0, 12)) + tuple((0, 2 * at - 8) for at in range(6))
    found = [(0, 1, 3), (0, 2, 8), (1, 2, 8)]
    for low in range(3, 8):
        found += [(0, low, low + 1), (1, low, low + 1)]
    found = tuple(sorted(found)[:11])
    return (corners, found, (1,) * 11, (1, 1))


def middle(plate, side):
    one, other = (plate[0][corner] for corner in side)
    return (one[0] + other[0], one[1] + other[1])


class Finer(unittest.TestCase):
    def refused(self, error, deed, *handed):
        with self.assertRaises(error) as caught:
            deed(*handed)
        self.assertIs(type(caught.exception), error)
        return caught.exception

    def test_by_hand(self):
        self.assertEqual(finer(TRIANGLE), (
            ((0, 0), (2, 0), (0, 2), (1, 0), (0, 1), (1, 1)), ((0, 3, 4), (1, 3, 5), (2, 4, 5), (3, 4, 5)),
            (1, 1, 1, 1), (1, 1),
        ))
        self.assertEqual(finer(SQUARE), (
            ((0, 0), (2, 0), (0, 2), (2, 2), (1, 0), (0, 1), (1, 1), (2, 1), (1, 2)),
            ((0, 4, 5), (1, 4, 6), (1, 6, 7), (2, 5, 6), (2, 6, 8), (3, 7, 8), (4, 5, 6), (6, 7, 8)),
            (2, 2, 3, 2, 3, 3, 2, 3), (1, 2),
        ))

    def test_by_what_is_told(self):
        chance = random.Random(1)
        for plate in (TRIANGLE, SQUARE, BOW, APART, RING) + tuple(chance_plate(chance, 6) for turn in range(10)):
            told = finer(plate)
            self.assertTrue(is_plate(told))
            corners, pieces, thicks, stuff = told
            self.assertEqual(corners[:len(plate[0])], tuple((2 * x, 2 * y) for x, y in plate[0]))
            self.assertEqual(list(corners[len(plate[0]):]), [middle(plate, side) for side in sides(plate)])
            self.assertEqual((stuff, room(told)), (plate[3], 4 * room(plate)))
            self.assertEqual(len(pieces), 4 * len(plate[1]))
            for piece, thick in zip(pieces, thicks):
                # Three times the middle of a small piece lies in the great one of which it is.
                point = [sum(corners[corner][along] for corner in piece) for along in (0, 1)]
                owners = [number for number, three in enumerate(plate[1]) if self.lies_inside(plate, three, point)]
                self.assertEqual([plate[2][number] for number in owners], [thick])

    def lies_inside(self, plate, three, point):
        points = [(6 * plate[0][corner][0], 6 * plate[0][corner][1]) for corner in three]
        signs = [turned(points[at], points[(at + 1) % 3], point) > 0 for at in range(3)]
        return signs[0] == signs[1] == signs[2]

    def test_too_many_corners(self):
        for plate, many in ((GRID, 99), (tower(40), 86), (finer(SQUARE), 25), (finer(finer(TRIANGLE)), 45)):
            if many > 30:
                told = self.refused(TooMany, finer, plate)
                self.assertEqual((told.many, told.most), (many, 30))
            else:
                self.assertEqual(len(finer(plate)[0]), many)
        # Three corners of each piece and three middles: five make thirty, six are too many.
        loose = tuple((10 * at + a, b) for at in range(-5, 5) for a, b in ((0, 0), (1, 0), (0, 1)))
        for many in (5, 6, 10):
            plate = (loose[:3 * many], tuple((at, at + 1, at + 2) for at in range(0, 3 * many, 3)), (1,) * many, (1, 1))
            self.assertTrue(is_plate(plate))
            if many == 5:
                self.assertEqual(len(finer(plate)[0]), 30)
            else:
                told = self.refused(TooMany, finer, plate)
                self.assertEqual((told.many, told.most), (6 * many, 30))

    def test_too_many_pieces(self):
        plate = crowded()
        self.assertTrue(is_plate(plate))
        self.assertLessEqual(len(plate[0]) + len(sides(plate)), 30)
        for deed, more in ((finer, ()), (carried, (None,)), (loads_over, (None,))):
            told = self.refused(TooMany, deed, plate, *more)
            self.assertEqual((told.many, told.most), (44, 40))
        fewer = (plate[0], plate[1][:10], plate[2][:10], plate[3])
        if is_plate(fewer):
            self.assertEqual(len(finer(fewer)[1]), 40)

    def test_beyond_a_hundred(self):
        for far in (50, 51, 100):
            for x, y in ((far, 0), (0, far), (-far, 0), (0, -far)):
                plate = (((0, 0), (1, 1), (x, y)), ((0, 1, 2),), (1,), (1, 1))
                if far == 50:
                    self.assertTrue(is_plate(finer(plate)))
                else:
                    self.refused(NoPlate, finer, plate)
                    self.refused(NoPlate, carried, plate, None)
                    self.refused(NoPlate, loads_over, plate, None)

    def test_the_order_of_refusals(self):
        # GRID lies beyond a hundred, too.
        for deed, more in ((finer, ()), (carried, (None,)), (loads_over, (None,))):
            told = self.refused(TooMany, deed, GRID, *more)
            self.assertEqual((told.many, told.most), (99, 30))
            far = tuple((x, 100) if (x, y) == (0, 12) else (x, y) for x, y in crowded()[0])
            self.assertEqual(self.refused(TooMany, deed, (far,) + crowded()[1:], *more).many, 44)
        self.refused(NoMotions, carried, SQUARE, None)
        self.refused(NoLoads, loads_over, SQUARE, None)

    def test_a_wheel(self):
        plate = wheel(7)
        self.assertEqual(len(plate[0]) + len(sides(plate)), 24)
        self.assertEqual((len(finer(plate)[0]), len(finer(plate)[1])), (24, 28))


class Over(unittest.TestCase):
    def test_by_hand(self):
        motions = wholes(1, 2, 3, 4, 6, -2)
        self.assertEqual(carried(TRIANGLE, motions), motions + ((2, 1), (3, 1), (7, 2), (0, 1), (9, 2), (1, 1)))
        self.assertEqual(loads_over(TRIANGLE, motions), motions + wholes(0, 0, 0, 0, 0, 0))

    def test_carried_motions_strain_as_before(self):
        chance = random.Random(2)
        for plate in (TRIANGLE, SQUARE, BOW, APART, RING) + tuple(chance_plate(chance, 6) for turn in range(6)):
            motions = chance_motions(chance, plate)
            told, fine = carried(plate, motions), finer(plate)
            self.assertEqual(told[:len(motions)], motions)
            for at, (one, other) in enumerate(sides(plate)):
                for along in (0, 1):
                    right = (theirs(motions[2 * one + along]) + theirs(motions[2 * other + along])) / 2
                    self.assertEqual(told[len(motions) + 2 * at + along], ours(right))
            self.assertEqual(worth_of(fine, told), worth_of(plate, motions))
            self.assertEqual(theirs(worth_of(fine, told)), right_worth(plate, all_theirs(motions)))

    def test_half_the_strain_of_a_plate_twice_as_long(self):
        motions = wholes(0, 0, 3, 0, 0, -1)
        fine, told = finer(TRIANGLE), carried(TRIANGLE, motions)
        for number in range(4):
            self.assertEqual(strain(fine, told, number), ((3, 2), (-1, 2), (0, 1)))

    def test_loads_over(self):
        chance = random.Random(3)
        for plate in (SQUARE, BOW, RING):
            loads = chance_motions(chance, plate)
            self.assertEqual(loads_over(plate, loads), loads + (NOUGHT,) * (2 * len(sides(plate))))

    def test_great_numbers(self):
        motions = tuple((GREATEST - way, GREAT * 10 + 1) for way in range(8))
        motions = tuple(ours(theirs(part)) for part in motions)
        self.assertEqual(worth_of(finer(SQUARE), carried(SQUARE, motions)), worth_of(SQUARE, motions))


class Promises(unittest.TestCase):
    def test_no_greater_worth_and_a_rest_just_where_there_was_one(self):
        chance = random.Random(4)
        seen = {"rest": 0, "none": 0}
        for turn in range(60):
            plate = chance_plate(chance, chance.randint(3, 6))
            holding, loads = chance_holding(chance, plate, 12), chance_motions(chance, plate)
            if turn % 3 == 0:
                loads = wholes(*[0] * len(loads))
            fine, over = finer(plate), loads_over(plate, loads)
            word = paper(plate, holding, loads)[0]
            self.assertEqual(paper(fine, holding, over)[0], word)
            seen[word] += 1
            if word == "rest":
                self.assertLessEqual(theirs(worth(fine, holding, over)), theirs(worth(plate, holding, loads)))
        self.assertGreater(min(seen.values()), 10)

    def test_free_ways_are_as_many(self):
        for plate in (TRIANGLE, SQUARE, RING):
            for held in ((), (0,), (0, 1), (0, 1, 3), (1, 2, 5)):
                self.assertEqual(len(free_ways(finer(plate), held)), len(free_ways(plate, held)))


if __name__ == "__main__":
    unittest.main()
