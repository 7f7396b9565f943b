"""Frames of lots, with loads, joined, led to kept ways; the inner ways; the rest of a frame."""

import random
import unittest
from fractions import Fraction

from platerest.errors import NoFrame, NoHolding, NoInner, NoMotions, NoWays
from platerest.frames import frame_of, frame_rest, inner, joined, led, with_loads
from platerest.frees import firm
from platerest.rests import paper
from tests.shapes import (
    APART, BOW, GRID, NOUGHT, ONE, PLATES, RING, SQUARE, TRIANGLE, all_theirs, chance_holding, chance_motions,
    chance_plate, held_by, right_pushes, right_stresses, unit, wholes,
)
from tests.things import GREAT, GREATEST, our_row, ours, right_frees, theirs

NOTHING = ((), (), ())
# Three ways in a row, each bound to the next.
CHAIN = ((0, 1, 2), (wholes(1, -1, 0), wholes(-1, 2, -1), wholes(0, -1, 1)), wholes(0, 0, 0))
PULLED = CHAIN[:2] + (wholes(0, 3, 0),)
# None of the two ways is put by itself, but both are.
CROSSED = ((3, 59), (wholes(0, 1), wholes(1, 0)), wholes(2, 5))


def chance_frame(chance, ways, nought=0.3):
    """A frame of the ways with fractions by chance, many of them noughts."""
    table = {}
    for at, way in enumerate(ways):
        for other in ways[at:]:
            part = 0 if chance.random() < nought else Fraction(chance.randint(-5, 5), chance.choice((1, 1, 2, 3)))
            table[(way, other)] = table[(other, way)] = ours(part)
    rows = tuple(tuple(table[(way, other)] for other in ways) for way in ways)
    return (ways, rows, chance_row(chance, len(ways)))


def chance_row(chance, many):
    return our_row(Fraction(chance.randint(-9, 9), chance.choice((1, 2, 5))) for part in range(many))


def some(chance, ways):
    return tuple(way for way in ways if chance.random() < 0.5)


def left_at(frame, motions):
    """Table times motions less rights, at each way, of motions that are Python's own fractions by ways."""
    ways, table, rights = frame
    return {way: sum(theirs(part) * motions[other] for other, part in zip(ways, row)) - theirs(right)
            for way, row, right in zip(ways, table, rights)}


def is_singular(frame, kept):
    ways, table, rights = frame
    inside = [at for at, way in enumerate(ways) if way not in kept]
    return right_frees([[theirs(table[at][other]) for other in inside] for at in inside], len(inside)) != ()


class Lots(unittest.TestCase):
    def test_by_hand(self):
        self.assertEqual(frame_of(TRIANGLE, ()), NOTHING)
        ways, table, rights = frame_of(TRIANGLE, (0,))
        self.assertEqual(ways, (0, 1, 2, 3, 4, 5))
        self.assertEqual(rights, wholes(0, 0, 0, 0, 0, 0))
        self.assertEqual(table[2], our_row([Fraction(-3, 2), Fraction(-1, 2), Fraction(3, 2), 0, 0, Fraction(1, 2)]))
        self.assertEqual(table[3], our_row([Fraction(-1, 2), Fraction(-1, 2), 0, Fraction(1, 2), Fraction(1, 2), 0]))
        self.assertEqual(table[0], our_row([2, 1, Fraction(-3, 2), Fraction(-1, 2), Fraction(-1, 2), Fraction(-1, 2)]))

    def test_ways_are_those_of_the_corners(self):
        self.assertEqual(frame_of(SQUARE, (1,))[0], (2, 3, 4, 5, 6, 7))
        self.assertEqual(frame_of(BOW, (1,))[0], (0, 1, 6, 7, 8, 9))
        self.assertEqual(frame_of(APART, (0, 1))[0], tuple(range(12)))
        self.assertEqual(frame_of(RING, (0, 7))[0], (0, 1, 2, 3, 6, 7, 8, 9, 12, 13, 14, 15))

    def test_pushes_of_the_lot_alone(self):
        chance = random.Random(1)
        for plate in PLATES[:5] + tuple(chance_plate(chance, 7) for turn in range(6)):
            lot = tuple(number for number in range(len(plate[1])) if chance.random() < 0.6)
            ways, table, rights = frame_of(plate, lot)
            many = 2 * len(plate[0])
            self.assertEqual(ways, tuple(sorted({2 * corner + along for number in lot for corner in plate[1][number]
                                                 for along in (0, 1)})))
            self.assertEqual(rights, (NOUGHT,) * len(ways))
            for at, other in enumerate(ways):
                stresses = right_stresses(plate, unit(many, other))
                alone = [three if number in lot else (0, 0, 0) for number, three in enumerate(stresses)]
                pushes = right_pushes(plate, alone)
                self.assertEqual(tuple(row[at] for row in table), our_row(pushes[way] for way in ways))
                self.assertEqual(table[at], tuple(row[at] for row in table))

    def test_the_greatest(self):
        told = frame_of(GRID, tuple(range(40)))
        self.assertEqual(told[0], tuple(range(60)))
        self.assertEqual(with_loads(told, {}), told)


class Loads(unittest.TestCase):
    def test_by_hand(self):
        self.assertEqual(with_loads(CHAIN, {1: (3, 1)}), PULLED)
        self.assertEqual(with_loads(PULLED, {1: (-1, 2), 2: (1, 3)}), CHAIN[:2] + (((0, 1), (5, 2), (1, 3)),))
        self.assertEqual(with_loads(PULLED, {}), PULLED)
        self.assertEqual(with_loads(NOTHING, {}), NOTHING)
        self.assertEqual(with_loads(CROSSED, {59: (-5, 1)}), CROSSED[:2] + (wholes(2, 0),))

    def test_the_dict_stays_and_may_change_later(self):
        loads = {2: (1, 1), 0: (2, 1)}
        told = with_loads(CHAIN, loads)
        self.assertEqual(loads, {2: (1, 1), 0: (2, 1)})
        self.assertEqual(list(loads), [2, 0])
        loads[0] = (7, 1)
        self.assertEqual(told[2], wholes(2, 0, 1))


class Joined(unittest.TestCase):
    def test_by_hand(self):
        self.assertEqual(joined(NOTHING, NOTHING), NOTHING)
        self.assertEqual(joined(PULLED, NOTHING), PULLED)
        self.assertEqual(joined(NOTHING, PULLED), PULLED)
        self.assertEqual(joined(((5,), ((ONE,),), (ONE,)), ((2,), (((2, 1),),), (NOUGHT,))),
                         ((2, 5), (wholes(2, 0), wholes(0, 1)), wholes(0, 1)))
        one = ((0, 4), (((1, 2), (1, 3)), ((1, 3), (0, 1))), ((1, 1), (1, 6)))
        other = ((4, 7), (((1, 2), (5, 1)), ((5, 1), (-1, 1))), ((1, 3), (2, 1)))
        table = (((1, 2), (1, 3), (0, 1)), ((1, 3), (1, 2), (5, 1)), ((0, 1), (5, 1), (-1, 1)))
        self.assertEqual(joined(one, other), ((0, 4, 7), table, ((1, 1), (1, 2), (2, 1))))
        self.assertEqual(joined(other, one), joined(one, other))

    def test_lots_joined_are_the_lot_of_both(self):
        chance = random.Random(2)
        for plate in PLATES[:5] + (GRID,):
            numbers = range(len(plate[1]))
            first = tuple(number for number in numbers if chance.random() < 0.5)
            second = tuple(number for number in numbers if number not in first)
            whole = joined(frame_of(plate, first), frame_of(plate, second))
            self.assertEqual(whole, frame_of(plate, tuple(numbers)))

    def test_sixty_ways(self):
        chance = random.Random(3)
        even = chance_frame(chance, tuple(range(0, 60, 2)))
        odd = chance_frame(chance, tuple(range(1, 60, 2)))
        ways, table, rights = joined(even, odd)
        self.assertEqual(ways, tuple(range(60)))
        for at, row in enumerate(table):
            mine = (even, odd)[at % 2]
            self.assertEqual(row[at % 2::2], mine[1][at // 2])
            self.assertEqual(row[1 - at % 2::2], (NOUGHT,) * 30)
        self.assertEqual((rights[::2], rights[1::2]), (even[2], odd[2]))
        self.assertEqual(led((ways, table, rights), ways), (ways, table, rights))


class Led(unittest.TestCase):
    def test_by_hand(self):
        half = (((1, 2), (-1, 2)), ((-1, 2), (1, 2)))
        self.assertEqual(led(CHAIN, (0, 2)), ((0, 2), half, wholes(0, 0)))
        self.assertEqual(led(PULLED, (0, 2)), ((0, 2), half, ((3, 2), (3, 2))))
        self.assertEqual(led(PULLED, (0,)), ((0,), ((NOUGHT,),), ((3, 1),)))
        self.assertEqual(led(PULLED, (1, 2)), ((1, 2), (wholes(1, -1), wholes(-1, 1)), wholes(3, 0)))
        self.assertEqual(led(PULLED, (0, 1, 2)), PULLED)
        self.assertEqual(led(NOTHING, ()), NOTHING)
        self.assertEqual(led(CROSSED, ()), NOTHING)

    def test_inner_by_hand(self):
        self.assertEqual(inner(PULLED, (0, 2), wholes(1, 5)), ((9, 2),))
        self.assertEqual(inner(PULLED, (0,), wholes(0)), wholes(3, 3))
        self.assertEqual(inner(PULLED, (2,), wholes(-1)), wholes(2, 2))
        self.assertEqual(inner(PULLED, (0, 1, 2), wholes(7, 8, 9)), ())
        self.assertEqual(inner(CROSSED, (), ()), wholes(5, 2))
        self.assertEqual(inner(NOTHING, (), ()), ())

    def test_rest_by_hand(self):
        self.assertEqual(frame_rest(PULLED, ((0, NOUGHT),)), wholes(0, 3, 3))
        self.assertEqual(frame_rest(PULLED, ((1, (1, 2)),)), ((1, 2),) * 3)
        self.assertEqual(frame_rest(PULLED, ((0, ONE), (2, (5, 1)))), ((1, 1), (9, 2), (5, 1)))
        self.assertEqual(frame_rest(PULLED, ((0, ONE), (1, NOUGHT), (2, (5, 1)))), wholes(1, 0, 5))
        self.assertEqual(frame_rest(CROSSED, ()), wholes(5, 2))
        self.assertEqual(frame_rest(NOTHING, ()), ())

    def test_not_put_in_one_way_alone(self):
        # The first has many ways to be in balance, the second none.
        for frame in (CHAIN, PULLED):
            for deed, more in ((led, ((),)), (inner, ((), ())), (frame_rest, ((),))):
                with self.assertRaises(NoInner) as caught:
                    deed(frame, *more)
                self.assertIs(type(caught.exception), NoInner)
        for kept in ((3,), (59,)):
            with self.assertRaises(NoInner):
                led(CROSSED, kept)
            with self.assertRaises(NoInner):
                frame_rest(CROSSED, ((kept[0], ONE),))
        empty = ((7,), ((NOUGHT,),), (NOUGHT,))
        self.assertEqual(led(empty, (7,)), empty)
        with self.assertRaises(NoInner):
            led(empty, ())

    def test_the_order_of_refusals(self):
        for motions in (None, (), wholes(1, 2), [ONE]):
            with self.assertRaises(NoInner):
                inner(CROSSED, (3,), motions)
            with self.assertRaises(NoMotions):
                inner(PULLED, (0,), motions)
        with self.assertRaises(NoWays):
            inner(CROSSED, (4,), None)
        with self.assertRaises(NoFrame):
            inner(CROSSED[:2], (4,), None)
        with self.assertRaises(NoHolding):
            frame_rest(CROSSED, ((4, ONE),))

    def look(self, chance, frame, kept):
        """Look through what is led by what it means; whether it is there is told."""
        if is_singular(frame, kept):
            for deed, more in ((led, ()), (inner, (chance_row(chance, len(kept)),)), (inner, (None,))):
                with self.assertRaises(NoInner):
                    deed(frame, kept, *more)
            return False
        told = led(frame, kept)
        self.assertEqual(told[0], kept)
        self.assertEqual(led(told, kept), told)
        for turn in range(2):
            moves = chance_row(chance, len(kept))
            motions = dict(zip(kept, all_theirs(moves)))
            others = inner(frame, kept, moves)
            inside = tuple(way for way in frame[0] if way not in kept)
            whole = {**motions, **dict(zip(inside, all_theirs(others)))}
            left = left_at(frame, whole)
            self.assertEqual([left[way] for way in inside], [0] * len(inside))
            self.assertEqual(left_at(told, motions), {way: left[way] for way in kept})
            self.assertEqual(frame_rest(frame, tuple(zip(kept, moves))), our_row(whole[way] for way in frame[0]))
        return True

    def test_chance(self):
        chance = random.Random(4)
        seen = {True: 0, False: 0}
        for turn in range(300):
            ways = tuple(sorted(chance.sample(range(60), chance.randint(0, 7))))
            frame = chance_frame(chance, ways, chance.choice((0.2, 0.7)))
            seen[self.look(chance, frame, some(chance, ways))] += 1
        self.assertGreater(min(seen.values()), 30)

    def test_what_nothing_holds(self):
        # A lot that is loose may be led to ways that hold it, and not to fewer.
        frame = frame_of(TRIANGLE, (0,))
        self.assertEqual(led(frame, (0, 1, 3)), ((0, 1, 3), (wholes(0, 0, 0),) * 3, wholes(0, 0, 0)))
        for kept in ((), (0, 1), (0, 1, 2), (0, 2, 4)):
            self.assertFalse(firm(TRIANGLE, kept))
            with self.assertRaises(NoInner):
                led(frame, kept)


class Promises(unittest.TestCase):
    def test_leading_in_whatever_order(self):
        chance = random.Random(5)
        for turn in range(25):
            plate = chance_plate(chance, chance.randint(4, 8))
            loads = dict(enumerate(chance_motions(chance, plate)))
            whole = with_loads(frame_of(plate, tuple(range(len(plate[1])))), loads)
            holding = chance_holding(chance, plate, 8)
            kept = held_by(holding)
            if not firm(plate, kept):
                continue
            right = led(whole, kept)
            left = whole
            for way in chance.sample(whole[0], len(whole[0])):
                if way not in kept:
                    left = led(left, tuple(other for other in left[0] if other != way))
            self.assertEqual(left, right)

    def test_parts_led_to_their_rims(self):
        chance = random.Random(6)
        for plate in (SQUARE, RING, GRID) + tuple(chance_plate(chance, 9) for turn in range(8)):
            loads = chance_motions(chance, plate)
            numbers = tuple(range(len(plate[1])))
            lots = [[], [], []]
            for number in numbers:
                lots[chance.randrange(3)].append(number)
            whole = with_loads(frame_of(plate, numbers), dict(enumerate(loads)))
            held = (0, 1, 2, 3)
            total = (held, (wholes(0, 0, 0, 0),) * 4, wholes(0, 0, 0, 0))
            for at, lot in enumerate(lots):
                frame = frame_of(plate, tuple(lot))
                others = {way for more in lots[:at] + lots[at + 1:] for way in frame_of(plate, tuple(more))[0]}
                own = [way for way in frame[0] if way not in others and way not in held]
                frame = with_loads(frame, {way: loads[way] for way in own})
                for way in own:
                    kept = tuple(other for other in frame[0] if other != way)
                    try:
                        frame = led(frame, kept)
                    except NoInner:
                        continue
                total = joined(total, frame)
            # What is held twice over is loaded once.
            missing = {way: loads[way] for way in range(len(loads))
                       if way in held or sum(way in frame_of(plate, tuple(lot))[0] for lot in lots) > 1}
            total = with_loads(total, missing)
            if firm(plate, held):
                self.assertEqual(led(total, held), led(whole, held))

    def test_a_frame_rests_as_its_plate(self):
        chance = random.Random(7)
        seen = 0
        for turn in range(40):
            plate = chance_plate(chance, chance.randint(3, 8))
            loads, holding = chance_motions(chance, plate), chance_holding(chance, plate, 12)
            whole = with_loads(frame_of(plate, tuple(range(len(plate[1])))), dict(enumerate(loads)))
            if firm(plate, held_by(holding)):
                seen += 1
                self.assertEqual(frame_rest(whole, holding), paper(plate, holding, loads)[1])
            else:
                with self.assertRaises(NoInner):
                    frame_rest(whole, holding)
        self.assertGreater(seen, 5)

    def test_the_greatest_plate(self):
        chance = random.Random(8)
        loads = chance_motions(chance, GRID)
        whole = with_loads(frame_of(GRID, tuple(range(40))), dict(enumerate(loads)))
        holding = ((0, NOUGHT), (1, ONE), (11, (1, 2)))
        resting = paper(GRID, holding, loads)[1]
        self.assertEqual(frame_rest(whole, holding), resting)
        kept = tuple(way for way in range(60) if way in (0, 1, 11) or way % 3 == 0)
        told = led(whole, kept)
        self.assertEqual(frame_rest(told, holding), tuple(resting[way] for way in kept))
        self.assertEqual(inner(whole, kept, tuple(resting[way] for way in kept)),
                         tuple(resting[way] for way in range(60) if way not in kept))

    def test_great_numbers(self):
        table = ([GREAT, Fraction(1, GREAT), 0], [Fraction(1, GREAT), Fraction(GREATEST, 7), -GREATEST],
                 [0, -GREATEST, Fraction(5, GREAT)])
        rights = our_row([Fraction(1, GREATEST), Fraction(GREAT, 3), Fraction(-GREATEST, 2)])
        frame = ((1, 8, 9), tuple(our_row(row) for row in table), rights)
        chance = random.Random(9)
        for kept in ((), (1,), (8,), (1, 9), (8, 9), (1, 8, 9)):
            self.assertTrue(Led.look(self, chance, frame, kept))
        told = with_loads(led(frame, (1, 9)), {9: ours(Fraction(GREAT, GREATEST))})
        self.assertTrue(Led.look(self, chance, joined(told, frame), (8,)))


if __name__ == "__main__":
    unittest.main()
