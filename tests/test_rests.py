"""Rests, runaways, the paper, and the pulls of a holding."""

import random
import unittest
from fractions import Fraction

from platerest.errors import NoRest
from platerest.frees import free_motions, free_ways, is_free
from platerest.quotients import is_fraction
from platerest.rests import is_rest, is_runaway, paper, pulls
from platerest.strains import stresses
from tests.shapes import (
    APART, BOW, GRID, NOUGHT, ONE, PLATES, RING, SQUARE, TRIANGLE, all_theirs, chance_holding, chance_motions,
    chance_plate, held_by, right_pushes, right_stresses, tower, wholes,
)
from tests.things import GREAT, GREATEST, no_fractions, no_wholes, our_row, ours, theirs

AT_NOUGHT = ((0, NOUGHT), (1, NOUGHT), (3, NOUGHT))
PULLED = wholes(0, 0, 4, 0, 0, 0)
STRETCHED = wholes(0, 0, 3, 0, 0, -1)


def balanced(plate, holding, loads, motions):
    """Whether motions are a rest, by the work of their stresses on each way."""
    pushes = right_pushes(plate, right_stresses(plate, all_theirs(motions)))
    held = held_by(holding)
    kept = all(motions[way] == move for way, move in holding)
    return kept and all(pushes[way] == theirs(loads[way]) for way in range(len(loads)) if way not in held)


def work_of(loads, motions):
    return sum(one * other for one, other in zip(all_theirs(loads), all_theirs(motions)))


def plus(ones, others, many=1):
    return our_row(one + many * other for one, other in zip(all_theirs(ones), all_theirs(others)))


class Tests(unittest.TestCase):
    def looked_through(self, plate, holding, loads):
        """Look the paper through; its word is told."""
        told = paper(plate, holding, loads)
        self.assertIs(type(told), tuple)
        word, motions = told
        self.assertIs(type(motions), tuple)
        self.assertEqual(len(motions), 2 * len(plate[0]))
        self.assertTrue(all(is_fraction(part) for part in motions))
        held = held_by(holding)
        told_ones = free_motions(plate, held)
        working = [one for one in told_ones if work_of(loads, one) != 0]
        if word == "rest":
            self.assertEqual(working, [])
            self.assertTrue(balanced(plate, holding, loads, motions))
            self.assertEqual([motions[way] for way in free_ways(plate, held)], [NOUGHT] * len(told_ones))
        else:
            self.assertEqual(word, "none")
            self.assertEqual(motions, working[0])
        self.assertIs(is_rest(plate, holding, loads, motions), word == "rest")
        self.assertIs(is_runaway(plate, holding, loads, motions), word == "none")
        self.assertEqual(paper(plate, holding, loads), told)
        return word

    def in_balance(self, plate, holding, loads, motions):
        """Pulls and loads together come to nought along x, along y, and about each point."""
        told = pulls(plate, holding, loads, motions)
        self.assertIs(type(told), tuple)
        self.assertTrue(all(is_fraction(part) for part in told))
        self.assertEqual(len(told), len(holding))
        total = all_theirs(loads)
        for way, pull in zip(held_by(holding), told):
            total[way] += theirs(pull)
        self.assertEqual((sum(total[::2]), sum(total[1::2])), (0, 0))
        for x, y in ((0, 0), (7, -3)):
            about = [(at[0] - x) * total[2 * number + 1] - (at[1] - y) * total[2 * number]
                     for number, at in enumerate(plate[0])]
            self.assertEqual(sum(about), 0)
        pushes = right_pushes(plate, right_stresses(plate, all_theirs(motions)))
        right = [pushes[way] - theirs(loads[way]) for way in held_by(holding)]
        self.assertEqual(told, our_row(right))


class Paper(Tests):
    def test_by_hand(self):
        self.assertEqual(paper(TRIANGLE, AT_NOUGHT, PULLED), ("rest", STRETCHED))
        self.assertEqual(paper(TRIANGLE, AT_NOUGHT, wholes(0, 0, 1, 0, 0, 0)), (
            "rest", (NOUGHT, NOUGHT, (3, 4), NOUGHT, NOUGHT, (-1, 4))))
        thick = TRIANGLE[:2] + ((2,), (1, 1))
        self.assertEqual(paper(thick, AT_NOUGHT, wholes(0, 0, 8, 0, 0, 0)), ("rest", STRETCHED))

    def test_loads_at_held_ways_are_nothing_to_the_rest(self):
        self.assertEqual(paper(TRIANGLE, AT_NOUGHT, wholes(5, -7, 4, 9, 0, 0)), ("rest", STRETCHED))

    def test_moved_holdings(self):
        """Both corners at the foot drawn apart: the top goes down by l / (l + 2 m), as nothing pushes there."""
        holding = ((0, NOUGHT), (1, NOUGHT), (2, (3, 1)), (3, NOUGHT))
        self.assertEqual(paper(TRIANGLE, holding, (NOUGHT,) * 6), ("rest", wholes(0, 0, 3, 0, 0, -1)))
        holding = ((0, (1, 1)), (1, (2, 1)), (3, (2, 1)))
        self.assertEqual(paper(TRIANGLE, holding, (NOUGHT,) * 6), ("rest", wholes(1, 2, 1, 2, 1, 2)))

    def test_all_held(self):
        holding = tuple((way, (way, 1)) for way in range(6))
        self.assertEqual(paper(TRIANGLE, holding, wholes(9, 8, 7, 6, 5, 4)), ("rest", wholes(0, 1, 2, 3, 4, 5)))

    def test_nothing_held(self):
        self.assertEqual(paper(TRIANGLE, (), (NOUGHT,) * 6), ("rest", (NOUGHT,) * 6))
        self.assertEqual(paper(TRIANGLE, (), wholes(-4, 0, 4, 0, 0, 0)), ("rest", wholes(-1, 1, 2, 0, 0, 0)))
        self.assertEqual(paper(TRIANGLE, (), wholes(1, 0, 0, 0, 0, 0)), ("none", wholes(1, 0, 1, 1, 0, 0)))
        self.assertEqual(paper(TRIANGLE, (), wholes(0, 1, 0, 0, 0, 0)), ("none", wholes(-1, 1, -1, 0, 0, 1)))
        self.assertEqual(paper(TRIANGLE, (), wholes(-1, 0, 0, 0, 1, 0)), ("none", wholes(1, 0, 1, 1, 0, 0)))
        self.assertEqual(paper(TRIANGLE, (), wholes(-1, 0, 0, 1, 0, 0)), ("none", wholes(1, 0, 1, 0, 1, 0)))

    def test_joints(self):
        held = tuple((way, NOUGHT) for way in (0, 1, 3))
        self.assertEqual(self.looked_through(BOW, held, wholes(0, 0, 0, 0, 0, 0, 1, 0, 1, 0)), "rest")
        self.assertEqual(self.looked_through(BOW, held, wholes(0, 0, 0, 0, 0, 0, 0, 1, 0, 0)), "none")
        self.assertEqual(self.looked_through(BOW, held, wholes(0, 0, 0, 0, 0, 0, 0, 1, 0, -1)), "rest")

    def test_parts_apart(self):
        loads = wholes(0, 0, 0, 0, 0, 0, -2, 0, 2, 0, 0, 0)
        self.assertEqual(self.looked_through(APART, AT_NOUGHT, loads), "rest")
        self.assertEqual(self.looked_through(APART, AT_NOUGHT, wholes(0, 0, 1, 0, 5, 0, -2, 0, 3, 0, 0, 0)), "none")

    def test_by_chance(self):
        chance = random.Random(50)
        words = []
        for at in range(60):
            plate = chance_plate(chance, chance.randint(3, 7))
            holding = chance_holding(chance, plate, chance.choice((2, 6, 14)))
            words.append(self.looked_through(plate, holding, self.chance_loads(chance, plate, holding)))
        self.assertGreater(words.count("rest"), 15)
        self.assertGreater(words.count("none"), 15)

    def chance_loads(self, chance, plate, holding):
        """Loads by chance, or such as motions that keep the holding push: then there is a rest."""
        motions = chance_motions(chance, plate)
        if chance.random() < 0.5:
            return motions
        kept = list(motions)
        for way, move in holding:
            kept[way] = move
        return our_row(right_pushes(plate, right_stresses(plate, all_theirs(kept))))

    def test_the_greatest(self):
        loads = chance_motions(random.Random(51), GRID)
        holding = ((0, NOUGHT), (1, (1, 3)), (11, (-2, 7)))
        self.assertEqual(self.looked_through(GRID, holding, loads), "rest")
        self.assertEqual(self.looked_through(GRID, holding[:2], loads), "none")
        self.assertEqual(self.looked_through(tower(40), ((0, ONE), (1, NOUGHT), (3, NOUGHT)), loads[:46]), "rest")
        some = tuple((way, (way % 5, 3) if way % 5 % 3 else NOUGHT) for way in range(0, 60, 3))
        self.assertEqual(self.looked_through(GRID, some, loads), "rest")

    def test_great_numbers(self):
        moves = our_row((Fraction(GREATEST, GREAT), Fraction(-1, GREATEST), Fraction(GREAT, 7)))
        holding = ((0, moves[0]), (1, moves[1]), (3, moves[2]))
        loads = our_row((Fraction(GREAT, 2), 0, Fraction(-GREATEST, 1), Fraction(1, GREAT - 1), 0, 1, GREATEST, 3))
        self.assertEqual(self.looked_through(SQUARE, holding, loads), "rest")
        self.assertEqual(self.looked_through(SQUARE, holding[:2], loads), "none")
        self.in_balance(SQUARE, holding, loads, paper(SQUARE, holding, loads)[1])

    def test_unlike_bottoms_all_over(self):
        bottoms = [10 ** 30 + at for at in range(16)]
        loads = our_row(Fraction(at + 1, bottom) for at, bottom in enumerate(bottoms))
        holding = tuple((way, ours(Fraction(way + 1, 10 ** 40 + way))) for way in (0, 1, 3, 8))
        self.assertEqual(self.looked_through(RING, holding, loads), "rest")


class IsRest(Tests):
    def test_right_ones(self):
        self.assertIs(is_rest(TRIANGLE, AT_NOUGHT, PULLED, STRETCHED), True)
        self.assertIs(is_rest(TRIANGLE, (), (NOUGHT,) * 6, wholes(1, 1, 1, 1, 1, 1)), True)
        self.assertIs(is_rest(TRIANGLE, (), wholes(-4, 0, 4, 0, 0, 0), wholes(-1, 1, 2, 0, 0, 0)), True)
        self.assertIs(is_rest(TRIANGLE, (), wholes(-4, 0, 4, 0, 0, 0), wholes(7, 5, 10, 4, 10, 4)), False)
        self.assertIs(is_rest(TRIANGLE, (), wholes(-4, 0, 4, 0, 0, 0), wholes(7, 5, 10, 5, 7, 4)), True)

    def test_wrong_ones(self):
        for at in range(6):
            for part in ((1, 1), (1, GREATEST), (-7, 2)):
                motions = STRETCHED[:at] + (ours(theirs(STRETCHED[at]) + theirs(part)),) + STRETCHED[at + 1:]
                self.assertIs(is_rest(TRIANGLE, AT_NOUGHT, PULLED, motions), False)
        self.assertIs(is_rest(TRIANGLE, AT_NOUGHT, wholes(0, 0, 4, 0, 0, 1), STRETCHED), False)
        self.assertIs(is_rest(TRIANGLE, AT_NOUGHT[:2], wholes(0, 0, 4, 1, 0, 0), STRETCHED), False)
        self.assertIs(is_rest(TRIANGLE, AT_NOUGHT, wholes(5, 6, 4, 7, 0, 0), STRETCHED), True)

    def test_the_holding_is_kept(self):
        shifted = wholes(1, 0, 4, 0, 1, -1)
        self.assertIs(is_rest(TRIANGLE, AT_NOUGHT, PULLED, shifted), False)
        self.assertIs(is_rest(TRIANGLE, ((0, ONE),) + AT_NOUGHT[1:], PULLED, shifted), True)
        self.assertIs(is_rest(TRIANGLE, ((0, ONE),) + AT_NOUGHT[1:], PULLED, STRETCHED), False)

    def test_rests_differ_by_free_motions(self):
        chance = random.Random(52)
        for plate in (TRIANGLE, SQUARE, BOW, APART, RING):
            numbers = chance_motions(chance, plate)
            loads = our_row(right_pushes(plate, right_stresses(plate, all_theirs(numbers))))
            holding = ((1, numbers[1]),)
            rest = paper(plate, holding, loads)[1]
            self.assertIs(is_rest(plate, holding, loads, numbers), True)
            self.assertIs(is_free(plate, (1,), plus(numbers, rest, -1)), True)
            self.assertEqual(stresses(plate, numbers), stresses(plate, rest))
            for motions in free_motions(plate, (1,)):
                self.assertIs(is_rest(plate, holding, loads, plus(rest, motions, Fraction(5, 3))), True)

    def test_of_anything(self):
        for thing in no_fractions() + no_wholes() + [STRETCHED[:5], STRETCHED + (NOUGHT,), list(STRETCHED), (0,) * 6]:
            self.assertIs(is_rest(TRIANGLE, AT_NOUGHT, PULLED, thing), False)
            self.assertIs(is_runaway(TRIANGLE, AT_NOUGHT, PULLED, thing), False)
            self.assertIs(is_rest(TRIANGLE, AT_NOUGHT, PULLED, STRETCHED[:5] + (thing,)), False)
            self.assertIs(is_rest(TRIANGLE, AT_NOUGHT, PULLED, (thing,) + STRETCHED[1:]), False)


class IsRunaway(Tests):
    def test_right_ones(self):
        loads = wholes(1, 0, 0, 0, 0, 0)
        for motions in (wholes(1, 0, 1, 1, 0, 0), wholes(1, 0, 1, 0, 1, 0), wholes(-5, 5, -5, 0, 0, 5),
                        ((1, GREAT), NOUGHT, (1, GREAT), NOUGHT, (1, GREAT), NOUGHT)):
            self.assertIs(is_runaway(TRIANGLE, (), loads, motions), True)

    def test_wrong_ones(self):
        loads = wholes(1, 0, 0, 0, 0, 0)
        for motions in ((NOUGHT,) * 6, wholes(0, 1, 0, 1, 0, 1), wholes(1, 0, 0, 0, 0, 0), wholes(0, 0, 0, -1, 1, 0),
                        wholes(1, 0, 1, 1, 0, 1)):
            self.assertIs(is_runaway(TRIANGLE, (), loads, motions), False)

    def test_the_held_ways_count_and_their_moves_do_not(self):
        loads, motions = wholes(0, 0, 0, 0, 1, 0), wholes(0, 0, 0, -1, 1, 0)
        self.assertIs(is_runaway(TRIANGLE, (), loads, motions), True)
        for move in (NOUGHT, (5, 1), (-1, 3)):
            self.assertIs(is_runaway(TRIANGLE, ((0, move), (1, move)), loads, motions), True)
            self.assertIs(is_runaway(TRIANGLE, ((3, move),), loads, motions), False)
            self.assertIs(is_runaway(TRIANGLE, ((4, move),), loads, motions), False)

    def test_works_that_outweigh_one_another(self):
        motions = wholes(1, 0, 1, 0, 1, 0)
        self.assertIs(is_runaway(TRIANGLE, (), wholes(1, 5, -1, 5, 0, 5), motions), False)
        self.assertIs(is_runaway(TRIANGLE, (), our_row((Fraction(1, 2), 0, Fraction(-1, 3), 0, Fraction(-1, 6), 0)),
                                 motions), False)
        self.assertIs(is_runaway(TRIANGLE, (), our_row((Fraction(1, 2), 0, Fraction(-1, 3), 0, Fraction(-1, 7), 0)),
                                 motions), True)

    def test_of_anything(self):
        right = wholes(1, 0, 1, 0, 1, 0)
        loads = wholes(1, 0, 0, 0, 0, 0)
        self.assertIs(is_runaway(TRIANGLE, (), loads, right), True)
        for thing in no_fractions() + no_wholes() + [right[:5], right + (NOUGHT,), list(right), (1,) * 6]:
            self.assertIs(is_runaway(TRIANGLE, (), loads, thing), False)
            self.assertIs(is_runaway(TRIANGLE, (), loads, right[:5] + (thing,)), False)


class Pulls(Tests):
    def test_by_hand(self):
        self.assertEqual(pulls(TRIANGLE, AT_NOUGHT, PULLED, STRETCHED), wholes(-4, 0, 0))
        self.assertEqual(pulls(TRIANGLE, AT_NOUGHT, wholes(5, 6, 4, 7, 0, 0), STRETCHED), wholes(-9, -6, -7))
        self.assertEqual(pulls(TRIANGLE, (), (NOUGHT,) * 6, wholes(1, 1, 1, 1, 1, 1)), ())

    def test_corners_drawn_apart(self):
        holding = ((0, NOUGHT), (1, NOUGHT), (2, (3, 1)), (3, NOUGHT))
        self.assertEqual(pulls(TRIANGLE, holding, (NOUGHT,) * 6, STRETCHED), wholes(-4, 0, 4, 0))

    def test_by_chance(self):
        chance = random.Random(53)
        many = 0
        for at in range(40):
            plate = chance_plate(chance, chance.randint(3, 7))
            holding = chance_holding(chance, plate, 12)
            loads = chance_motions(chance, plate)
            word, motions = paper(plate, holding, loads)
            if word == "rest":
                many += 1
                self.in_balance(plate, holding, loads, motions)
        self.assertGreater(many, 8)

    def test_every_rest_has_the_same(self):
        loads = wholes(0, 0, 0, 0, 0, 0, 1, 0, 1, 0)
        holding = tuple((way, NOUGHT) for way in (0, 1, 3))
        rest = paper(BOW, holding, loads)[1]
        told = pulls(BOW, holding, loads, rest)
        for motions in free_motions(BOW, (0, 1, 3)):
            self.assertEqual(pulls(BOW, holding, loads, plus(rest, motions, 3)), told)

    def test_the_greatest(self):
        holding = ((0, NOUGHT), (1, (1, 3)), (11, (-2, 7)), (58, NOUGHT))
        loads = chance_motions(random.Random(54), GRID)
        self.in_balance(GRID, holding, loads, paper(GRID, holding, loads)[1])

    def test_what_is_no_rest_is_refused(self):
        wrongs = [wholes(0, 0, 3, 0, 0, 0), wholes(1, 0, 4, 0, 1, -1), STRETCHED[:5], list(STRETCHED), (NOUGHT,) * 6]
        for thing in wrongs + no_fractions() + no_wholes() + [(0, 0, 3, 0, 0, -1)]:
            with self.assertRaises(NoRest) as caught:
                pulls(TRIANGLE, AT_NOUGHT, PULLED, thing)
            self.assertIs(type(caught.exception), NoRest)
        for plate in PLATES:
            loads = (ONE,) + (NOUGHT,) * (2 * len(plate[0]) - 1)
            word, motions = paper(plate, (), loads)
            self.assertEqual(word, "none")
            with self.assertRaises(NoRest):
                pulls(plate, (), loads, motions)


class JustOneOfTwo(Tests):
    def test_a_rest_or_a_runaway(self):
        """Small loads of a triangle with some ways held, all of them: where there is a rest nothing runs away."""
        for code in range(3 ** 6):
            loads = wholes(*[code // 3 ** at % 3 - 1 for at in range(6)])
            for held in ((), (0,), (1, 4), (0, 1, 2)):
                holding = tuple((way, (way, 2)) if way % 2 else (way, (way // 2, 1)) for way in held)
                word, motions = paper(TRIANGLE, holding, loads)
                runs = [one for one in free_motions(TRIANGLE, held) if is_runaway(TRIANGLE, holding, loads, one)]
                self.assertIs(is_rest(TRIANGLE, holding, loads, motions), runs == [])
                self.assertEqual(word, "none" if runs else "rest")


if __name__ == "__main__":
    unittest.main()
