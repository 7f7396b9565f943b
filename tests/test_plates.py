"""Plates: whether something is one, sides, rim, parts, room."""

import copy
import inspect
import random
import unittest
from itertools import combinations

from platerest import plates as module
from platerest.errors import NoPlate
from platerest.plates import is_plate, parts, rim, room, sides
from tests.shapes import APART, BOW, GRID, PLATES, RING, SQUARE, TRIANGLE, chance_plate, fits, tower
from tests.things import GREATEST, deep, no_fractions, no_wholes

TELLERS = (sides, rim, parts, room)


def with_corners(*corners):
    """Plates of one piece over the first three corners."""
    return (tuple(corners), ((0, 1, 2),), (1,), (1, 1))


def changed(plate, at, part):
    return plate[:at] + (part,) + plate[at + 1:]


def no_plates():
    """Things of which none is a plate."""
    corners, pieces, thicks, stuff = SQUARE
    found = no_wholes() + no_fractions() + [0, 1, -1, GREATEST, list(SQUARE), SQUARE + ((),), SQUARE[:3], (SQUARE,)]
    found += [(), ((), (), (), ()), (None,) * 4, ([],) * 4, ({},) * 4, (1, 2, 3, 4), "abcd", dict(enumerate(SQUARE))]
    others = [thing for thing in no_wholes() if thing != (1, 1)]
    found += [changed(SQUARE, at, thing) for at in range(4) for thing in others + [0, 7, deep(9)]]
    found += [changed(SQUARE, at, list(SQUARE[at])) for at in range(4)]
    found += [changed(SQUARE, at, SQUARE[at][:-1]) for at in range(4)]
    found += [changed(SQUARE, at, SQUARE[at] + SQUARE[at][-1:]) for at in range(4)]
    return found


class IsPlate(unittest.TestCase):
    def is_one(self, plate):
        self.assertIs(is_plate(plate), True)

    def is_none(self, thing):
        self.assertIs(is_plate(thing), False)

    def test_plates(self):
        for plate in PLATES:
            self.is_one(plate)

    def test_of_anything(self):
        for thing in no_plates():
            self.is_none(thing)

    def test_things_within(self):
        for thing in no_wholes() + [GREATEST, -GREATEST, 101, -101]:
            self.is_none(with_corners((0, 0), (1, 0), (0, thing)))
            self.is_none(with_corners((thing, 0), (1, 0), (0, 1)))
            self.is_none(changed(TRIANGLE, 1, ((thing, 1, 2),)))
            self.is_none(changed(TRIANGLE, 1, ((0, 1, thing),)))
            self.is_none(changed(TRIANGLE, 2, (thing,)))
            self.is_none(changed(TRIANGLE, 3, (thing, 1)))
            self.is_none(changed(TRIANGLE, 3, (1, thing)))
            self.is_none(with_corners((0, 0), (1, 1), thing))
            self.is_none(changed(TRIANGLE, 1, (thing,)))

    def test_lists_within(self):
        self.is_none(with_corners((0, 0), (1, 0), [0, 1]))
        self.is_none(with_corners((0, 0), (1, 0), (0, 1, 0)))
        self.is_none(with_corners((0, 0), (1, 0), (0,)))
        self.is_none(changed(TRIANGLE, 1, ([0, 1, 2],)))
        self.is_none(changed(TRIANGLE, 1, ((0, 1),)))
        self.is_none(changed(TRIANGLE, 1, ((0, 1, 2, 2),)))
        self.is_none(changed(SQUARE, 1, ((0, 1, 2, 3), (1, 2, 3))))

    def test_truths_are_no_whole_numbers(self):
        self.is_none(with_corners((False, 0), (1, 0), (0, 1)))
        self.is_none(with_corners((0, 0), (True, 0), (0, 1)))
        self.is_none(changed(TRIANGLE, 1, ((False, 1, 2),)))
        self.is_none(changed(TRIANGLE, 1, ((0, True, 2),)))
        self.is_none(changed(TRIANGLE, 2, (True,)))
        self.is_none(changed(TRIANGLE, 3, (False, 1)))
        self.is_none(changed(TRIANGLE, 3, (1, True)))

    def test_bounds_of_corners(self):
        self.is_one(with_corners((-100, -100), (100, -100), (100, 100)))
        self.is_none(with_corners((-101, -100), (100, -100), (100, 100)))
        self.is_none(with_corners((-100, -100), (101, -100), (100, 100)))
        self.is_none(with_corners((-100, -101), (100, -100), (100, 100)))
        self.is_none(with_corners((-100, -100), (100, -100), (100, 101)))

    def test_bounds_of_thicknesses_and_stuff(self):
        for thick, right in ((0, False), (1, True), (9, True), (10, False), (-1, False)):
            self.assertIs(is_plate(changed(TRIANGLE, 2, (thick,))), right)
        for stuff, right in (((0, 1), True), ((9, 9), True), ((0, 0), False), ((-1, 1), False), ((10, 1), False),
                             ((1, 10), False), ((1, -1), False), ((0, 9), True), ((9, 1), True)):
            self.assertIs(is_plate(changed(TRIANGLE, 3, stuff)), right)
        self.is_none(changed(SQUARE, 2, (2, 10)))
        self.is_none(changed(SQUARE, 2, (0, 3)))

    def test_how_many_pieces(self):
        self.assertEqual((len(GRID[0]), len(GRID[1])), (30, 40))
        self.is_one(tower(40))
        self.assertTrue(fits(tower(41)[0], tower(41)[1]))
        self.is_none(tower(41))
        self.is_none((TRIANGLE[0], (), (), (1, 1)))

    def test_how_many_corners(self):
        corners = tuple((10 * x + a, 10 * y + b) for y in range(2) for x in range(5) for a, b in ((0, 0), (1, 0), (0, 1)))
        pieces = tuple((at, at + 1, at + 2) for at in range(0, 30, 3))
        self.is_one((corners, pieces, (1,) * 10, (1, 1)))
        more = (corners + ((-1, 0),), ((0, 2, 30),) + pieces, (1,) * 11, (1, 1))
        self.is_none((more[0], tuple(sorted(more[1])), more[2], more[3]))
        self.assertTrue(fits(more[0], more[1]))
        self.is_none((((0, 0), (1, 0)), ((0, 1, 1),), (1,), (1, 1)))

    def test_corners_are_unlike(self):
        self.is_none((((0, 0), (1, 0), (0, 1), (0, 1)), ((0, 1, 2), (0, 1, 3)), (1, 1), (1, 1)))
        self.is_none((((0, 0), (1, 0), (0, 1), (0, 0)), ((0, 1, 2), (1, 2, 3)), (1, 1), (1, 1)))
        self.is_none(with_corners((0, 0), (1, 0), (0, 0)))

    def test_numbers_of_corners(self):
        for piece in ((0, 1, 3), (-1, 0, 1), (-3, -2, -1), (0, 2, 1), (1, 0, 2), (2, 1, 0), (0, 0, 1), (0, 1, 1),
                      (0, 1, GREATEST), (-GREATEST, 1, 2)):
            self.is_none(changed(TRIANGLE, 1, (piece,)))

    def test_pieces_rise(self):
        self.is_none(changed(SQUARE, 1, ((1, 2, 3), (0, 1, 2))))
        self.is_none(changed(SQUARE, 1, ((0, 1, 2), (0, 1, 2))))
        self.is_none((TRIANGLE[0], ((0, 1, 2), (0, 1, 2)), (1, 1), (1, 1)))

    def test_thicknesses_for_each_piece(self):
        for thicks in ((), (1,), (1, 1, 1)):
            self.is_none(changed(SQUARE, 2, thicks))

    def test_pieces_on_one_line(self):
        self.is_none(with_corners((0, 0), (1, 1), (2, 2)))
        self.is_none(with_corners((0, 0), (0, 5), (0, -5)))
        self.is_none((SQUARE[0] + ((2, 0),), ((0, 1, 2), (0, 1, 4), (1, 2, 3)), (1, 1, 1), (1, 1)))

    def test_each_corner_is_used(self):
        self.is_none(with_corners((0, 0), (1, 0), (0, 1), (5, 5)))
        self.is_none(changed(changed(SQUARE, 1, ((0, 1, 2),)), 2, (1,)))

    def test_corners_in_strange_pieces(self):
        for corner, right in (((2, 1), False), ((2, 0), False), ((3, 3), False), ((0, 1), False), ((1, 5), False),
                              ((4, 4), True), ((3, 4), True), ((7, 0), True), ((0, 7), True)):
            corners = ((0, 0), (6, 0), (0, 6), corner, (30, 30), (31, 50))
            self.assertIs(is_plate((corners, ((0, 1, 2), (3, 4, 5)), (1, 1), (1, 1))), right)

    def test_a_corner_upon_a_side_of_another_part(self):
        corners = ((0, 0), (4, 0), (0, 4), (2, 0), (1, -3), (3, -3))
        self.is_none((corners, ((0, 1, 2), (3, 4, 5)), (1, 1), (1, 1)))
        self.is_one((corners[:3] + ((2, -1),) + corners[4:], ((0, 1, 2), (3, 4, 5)), (1, 1), (1, 1)))

    def test_pieces_that_cross_with_no_corner_in_another(self):
        star = ((0, 3), (-3, -2), (3, -2), (0, -4), (-3, 1), (3, 1))
        self.is_none((star, ((0, 1, 2), (3, 4, 5)), (1, 1), (1, 1)))
        one_in_common = ((0, 0), (4, 1), (4, -1), (3, 3), (5, -3))
        self.assertFalse(fits(one_in_common, ((0, 1, 2), (0, 3, 4))))
        self.is_none((one_in_common, ((0, 1, 2), (0, 3, 4)), (1, 1), (1, 1)))
        blade = ((0, 0), (10, 1), (10, -1), (5, 5), (5, -5), (6, 6))
        self.is_none((blade, ((0, 1, 2), (3, 4, 5)), (1, 1), (1, 1)))

    def test_pieces_over_one_side(self):
        same = ((0, 0), (4, 0), (0, 4), (4, 4))
        self.is_none((same, ((0, 1, 2), (0, 1, 3)), (1, 1), (1, 1)))
        other = ((0, 0), (4, 0), (0, 4), (4, -4))
        self.is_one((other, ((0, 1, 2), (0, 1, 3)), (1, 1), (1, 1)))
        within = ((0, 0), (4, 0), (0, 4), (1, 1))
        self.is_none((within, ((0, 1, 2), (0, 1, 3)), (1, 1), (1, 1)))

    def test_three_pieces_at_one_side(self):
        corners = ((0, 0), (4, 0), (0, 4), (4, -4), (2, 9))
        self.is_none((corners, ((0, 1, 2), (0, 1, 3), (0, 1, 4)), (1, 1, 1), (1, 1)))

    def test_parts_of_sides_on_one_line(self):
        corners = ((0, 0), (4, 0), (2, 3), (1, 0), (3, 0), (2, -3))
        self.is_none((corners, ((0, 1, 2), (3, 4, 5)), (1, 1), (1, 1)))
        corners = ((0, 0), (4, 0), (2, 3), (4, -1), (8, 0), (5, 0))
        self.is_one((corners, ((0, 1, 2), (3, 4, 5)), (1, 1), (1, 1)))
        corners = ((0, 0), (2, 0), (1, 3), (1, 0), (3, 0), (2, -3))
        self.is_none((corners, ((0, 1, 2), (3, 4, 5)), (1, 1), (1, 1)))

    def test_many_by_chance(self):
        chance = random.Random(20)
        told = []
        for at in range(4000):
            spots = [(x, y) for x in range(4) for y in range(4)]
            corners = tuple(chance.sample(spots, chance.randint(4, 6)))
            threes = list(combinations(range(len(corners)), 3))
            pieces = tuple(sorted(chance.sample(threes, chance.randint(2, 3))))
            told.append(is_plate((corners, pieces, (1,) * len(pieces), (1, 1))))
            self.assertIs(told[-1], fits(corners, pieces), (corners, pieces))
        self.assertGreater(told.count(True), 100)
        self.assertGreater(told.count(False), 1000)

    def test_plates_by_chance(self):
        chance = random.Random(21)
        for at in range(25):
            self.is_one(chance_plate(chance, chance.randint(3, 12)))

    def test_pairs_of_triangles_with_nothing_in_common(self):
        chance = random.Random(22)
        told = []
        for at in range(1500):
            corners = tuple((chance.randint(0, 9), chance.randint(0, 9)) for corner in range(6))
            if len(set(corners)) == 6:
                told.append(is_plate((corners, ((0, 1, 2), (3, 4, 5)), (1, 1), (1, 1))))
                self.assertIs(told[-1], fits(corners, ((0, 1, 2), (3, 4, 5))), corners)
        self.assertGreater(told.count(True), 50)

    def test_nothing_is_changed(self):
        things = no_plates()
        kept = copy.deepcopy(things)
        for thing in things:
            is_plate(thing)
        self.assertEqual(repr(things), repr(kept))


class Told(unittest.TestCase):
    def test_by_hand(self):
        self.assertEqual(sides(TRIANGLE), [(0, 1), (0, 2), (1, 2)])
        self.assertEqual(rim(TRIANGLE), [(0, 1), (0, 2), (1, 2)])
        self.assertEqual(parts(TRIANGLE), [(0,)])
        self.assertEqual(room(TRIANGLE), 1)
        self.assertEqual(sides(SQUARE), [(0, 1), (0, 2), (1, 2), (1, 3), (2, 3)])
        self.assertEqual(rim(SQUARE), [(0, 1), (0, 2), (1, 3), (2, 3)])
        self.assertEqual(parts(SQUARE), [(0, 1)])
        self.assertEqual(room(SQUARE), 2)

    def test_one_corner_in_common_is_no_part(self):
        self.assertEqual(parts(BOW), [(0,), (1,)])
        self.assertEqual(sides(BOW), [(0, 1), (0, 2), (0, 3), (0, 4), (1, 2), (3, 4)])
        self.assertEqual(rim(BOW), sides(BOW))
        self.assertEqual(room(BOW), 8)

    def test_nothing_in_common(self):
        self.assertEqual(parts(APART), [(0,), (1,)])
        self.assertEqual(rim(APART), sides(APART))
        self.assertEqual(room(APART), 2)

    def test_round_a_hole(self):
        self.assertEqual(parts(RING), [(0, 1, 2, 3, 4, 5, 6, 7)])
        self.assertEqual(room(RING), 2 * (9 - 1))
        self.assertEqual(rim(RING), [(0, 1), (0, 3), (1, 2), (2, 3), (4, 5), (4, 7), (5, 6), (6, 7)])
        self.assertEqual(len(sides(RING)), 16)

    def test_the_order_of_corners_is_nothing_to_the_room(self):
        for corners in (((0, 0), (4, 0), (0, 3)), ((0, 0), (0, 3), (4, 0)), ((0, 3), (0, 0), (4, 0))):
            self.assertEqual(room(with_corners(*corners)), 12)
        self.assertEqual(room(with_corners((-100, -100), (100, -100), (-100, 100))), 40000)

    def test_parts_that_are_linked_late(self):
        corners = ((0, 0), (2, 0), (0, 2), (9, 0), (11, 0), (9, 2), (2, 2), (11, 2))
        pieces = ((0, 1, 2), (1, 2, 6), (3, 4, 5), (4, 5, 7))
        self.assertEqual(parts((corners, pieces, (1,) * 4, (1, 1))), [(0, 1), (2, 3)])
        strip = ((0, 0), (6, 0), (2, 2), (3, 0), (5, 2), (8, 2))
        pieces = ((0, 2, 3), (1, 3, 4), (1, 4, 5), (2, 3, 4))
        self.assertEqual(parts((strip, pieces, (1,) * 4, (1, 1))), [(0, 1, 2, 3)])
        two = ((0, 2, 3), (1, 3, 4), (1, 4, 5))
        self.assertEqual(parts((strip, two, (1,) * 3, (1, 1))), [(0,), (1, 2)])
        crossed = ((0, 0), (10, 0), (1, 0), (11, 0), (0, 1), (10, 1), (1, 1), (11, 1))
        pieces = ((0, 2, 4), (1, 3, 5), (2, 4, 6), (3, 5, 7))
        self.assertEqual(parts((crossed, pieces, (1,) * 4, (1, 1))), [(0, 2), (1, 3)])

    def test_the_greatest(self):
        self.assertEqual(len(sides(GRID)), 69)
        self.assertEqual(len(rim(GRID)), 18)
        self.assertEqual(parts(GRID), [tuple(range(40))])
        self.assertEqual(len(rim(tower(40))), 3 + 3)

    def test_by_chance(self):
        chance = random.Random(23)
        for at in range(40):
            plate = chance_plate(chance, chance.randint(3, 12))
            pairs = [pair for piece in plate[1] for pair in combinations(piece, 2)]
            self.assertEqual(sides(plate), sorted(set(pairs)))
            self.assertEqual(rim(plate), sorted(pair for pair in set(pairs) if pairs.count(pair) == 1))
            self.assertLessEqual(max(pairs.count(pair) for pair in pairs), 2)
            self.parts_looked_through(plate)

    def parts_looked_through(self, plate):
        told = parts(plate)
        self.assertEqual(sorted(number for part in told for number in part), list(range(len(plate[1]))))
        self.assertEqual(told, sorted(tuple(sorted(part)) for part in told))
        home = {number: at for at, part in enumerate(told) for number in part}
        linked = [pair for pair in combinations(range(len(plate[1])), 2)
                  if len(set(plate[1][pair[0]]) & set(plate[1][pair[1]])) == 2]
        for one, other in linked:
            self.assertEqual(home[one], home[other])
        # A part that holds together has at least as many links as it has pieces but one; grown from one, it is whole.
        for part in told:
            reached = {part[0]}
            for turn in part:
                reached |= {number for pair in linked if set(pair) & reached for number in pair}
            self.assertEqual(reached, set(part))

    def test_kinds(self):
        for teller in (sides, rim, parts):
            told = teller(SQUARE)
            self.assertIs(type(told), list)
            self.assertEqual({type(part) for part in told}, {tuple})
        self.assertIs(type(room(SQUARE)), int)

    def test_told_lists_are_the_askers_own(self):
        for teller in (sides, rim, parts):
            told = teller(SQUARE)
            kept = list(told)
            told.clear()
            self.assertEqual(teller(SQUARE), kept)

    def test_refused(self):
        for thing in no_plates():
            for teller in TELLERS:
                with self.assertRaises(NoPlate) as caught:
                    teller(thing)
                self.assertIs(type(caught.exception), NoPlate)

    def test_names(self):
        self.assertEqual(list(inspect.signature(module.is_plate).parameters), ["thing"])
        for teller in TELLERS:
            self.assertEqual(list(inspect.signature(teller).parameters), ["plate"])


if __name__ == "__main__":
    unittest.main()
