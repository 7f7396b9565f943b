"""Fractions: what one is, how one is made, and reckoning with two."""

import copy
import inspect
import random
import unittest
from fractions import Fraction

from platerest import quotients
from platerest.errors import NoFraction, NoWhole
from platerest.quotients import is_fraction, less, made, minus, over, plus, times
from tests.things import GREAT, GREATEST, no_fractions, no_wholes, ours, theirs

OF_TWO = (plus, minus, times, over, less)
WHOLES = (0, 1, -1, 2, -2, 3, 6, -12, 35, 97, -100, 2 ** 61, -(2 ** 64), GREAT, -GREAT, GREATEST, -GREATEST)
FRACTIONS = (
    (0, 1), (1, 1), (-1, 1), (1, 2), (-1, 2), (2, 3), (3, 2), (-7, 3), (5, 6), (12, 35), (100, 1), (-1, 100),
    (1, GREAT), (-1, GREATEST), (GREAT, 1), (-GREATEST, 1), ours(Fraction(GREAT, GREATEST)),
    ours(Fraction(-GREATEST, 2 ** 1900)),
)


def chance_fractions(seed, many):
    chance = random.Random(seed)
    found = []
    for at in range(many):
        top, bottom = 10 ** chance.choice((1, 2, 9, 40, 600)) - 1, 10 ** chance.choice((1, 2, 9, 40, 600)) - 1
        found.append(ours(Fraction(chance.randint(-top, top), chance.randint(1, bottom))))
    return found


class Tests(unittest.TestCase):
    def refused(self, error, deed, *handed, **named):
        with self.assertRaises(error) as caught:
            deed(*handed, **named)
        self.assertIs(type(caught.exception), error)

    def same_fraction(self, told, number):
        self.assertIs(type(told), tuple)
        self.assertEqual([type(part) for part in told], [int, int])
        self.assertEqual(told, ours(number))


class IsFraction(Tests):
    def test_fractions_are_some(self):
        for thing in FRACTIONS + tuple(chance_fractions(1, 60)):
            with self.subTest(thing=str(thing)[:60]):
                self.assertIs(is_fraction(thing), True)

    def test_other_things_are_none(self):
        for at, thing in enumerate(no_fractions()):
            with self.subTest(at=at, thing=str(thing)[:60]):
                self.assertIs(is_fraction(thing), False)

    def test_small_tuples(self):
        for top in range(-12, 13):
            for bottom in range(-12, 13):
                right = bottom > 0 and ours(Fraction(top, bottom)) == (top, bottom)
                self.assertIs(is_fraction((top, bottom)), right, (top, bottom))

    def test_numbers_beyond_what_is_written(self):
        one, other = 3 ** 12000, 2 ** 20000
        self.assertIs(is_fraction((one, other)), True)
        self.assertIs(is_fraction((one * 2, other)), False)

    def test_by_name(self):
        self.assertIs(is_fraction(thing=(1, 2)), True)


class Made(Tests):
    def test_of_two(self):
        for top in WHOLES:
            for bottom in WHOLES:
                if bottom != 0:
                    self.same_fraction(made(top, bottom), Fraction(top, bottom))

    def test_of_one(self):
        for top in WHOLES:
            self.same_fraction(made(top), Fraction(top))

    def test_plain_ones(self):
        self.assertEqual(made(6, 4), (3, 2))
        self.assertEqual(made(6, -4), (-3, 2))
        self.assertEqual(made(-6, -4), (3, 2))
        self.assertEqual(made(0, -5), (0, 1))
        self.assertEqual(made(7), (7, 1))

    def test_by_names(self):
        self.assertEqual(made(bottom=-4, top=6), (-3, 2))
        self.assertEqual(made(6, bottom=4), (3, 2))
        self.assertEqual(made(top=6), (6, 1))

    def test_nought_below(self):
        for top in WHOLES:
            self.refused(NoWhole, made, top, 0)

    def test_what_is_no_whole_number(self):
        for thing in no_wholes():
            self.refused(NoWhole, made, thing)
            self.refused(NoWhole, made, thing, 3)
            self.refused(NoWhole, made, 3, thing)
            self.refused(NoWhole, made, thing, thing)
            self.refused(NoWhole, made, thing, 0)
            self.refused(NoWhole, made, bottom=thing, top=3)


class OfTwo(Tests):
    def test_sums_and_the_like(self):
        pool = list(FRACTIONS) + chance_fractions(2, 30)
        for one in pool:
            for other in pool:
                first, second = theirs(one), theirs(other)
                self.same_fraction(plus(one, other), first + second)
                self.same_fraction(minus(one, other), first - second)
                self.same_fraction(times(one, other), first * second)
                self.assertIs(less(one, other), first < second)
                if second != 0:
                    self.same_fraction(over(one, other), first / second)

    def test_plain_ones(self):
        self.assertEqual(plus((1, 2), (1, 3)), (5, 6))
        self.assertEqual(plus((1, 2), (-1, 2)), (0, 1))
        self.assertEqual(minus((1, 2), (1, 3)), (1, 6))
        self.assertEqual(minus((1, 3), (1, 2)), (-1, 6))
        self.assertEqual(times((2, 3), (-3, 2)), (-1, 1))
        self.assertEqual(over((1, 2), (-1, 4)), (-2, 1))
        self.assertEqual(over((0, 1), (-1, 4)), (0, 1))
        self.assertIs(less((1, 3), (1, 2)), True)
        self.assertIs(less((1, 2), (1, 2)), False)
        self.assertIs(less((-1, 3), (-1, 2)), False)

    def test_by_names(self):
        self.assertEqual(plus(other=(1, 3), one=(1, 2)), (5, 6))
        self.assertEqual(minus(other=(1, 3), one=(1, 2)), (1, 6))
        self.assertEqual(times(other=(1, 3), one=(1, 2)), (1, 6))
        self.assertEqual(over(other=(1, 3), one=(1, 2)), (3, 2))
        self.assertIs(less(other=(1, 3), one=(1, 2)), False)

    def test_over_nought(self):
        for one in FRACTIONS:
            self.refused(NoFraction, over, one, (0, 1))

    def test_what_is_no_fraction(self):
        for deed in OF_TWO:
            for thing in no_fractions():
                self.refused(NoFraction, deed, thing, (1, 2))
                self.refused(NoFraction, deed, (1, 2), thing)
                self.refused(NoFraction, deed, (0, 1), thing)
                self.refused(NoFraction, deed, thing, (0, 1))
                self.refused(NoFraction, deed, thing, thing)

    def test_what_was_told_is_handed_in_again(self):
        total, checked = (1, 1), Fraction(1)
        for fraction in chance_fractions(3, 12):
            total, checked = plus(total, fraction), checked + theirs(fraction)
        self.same_fraction(total, checked)
        self.same_fraction(times(total, total), checked * checked)


class Asking(Tests):
    def test_what_is_handed_in_is_as_it_was(self):
        for thing in no_fractions():
            kept = copy.deepcopy(thing)
            is_fraction(thing)
            for deed in OF_TWO:
                self.refused(NoFraction, deed, thing, (1, 2))
                self.refused(NoFraction, deed, (1, 2), thing)
            if not type(thing) is int:
                self.refused(NoWhole, made, thing)
            self.assertEqual(repr(thing), repr(kept))

    def test_asked_again_the_answer_is_the_same(self):
        for deed in OF_TWO:
            self.assertEqual(deed((5, 6), (-7, 3)), deed((5, 6), (-7, 3)))
        self.assertEqual(made(30, 12), made(30, 12))

    def test_arguments_have_their_names(self):
        names = {
            "is_fraction": "(thing)", "made": "(top, bottom=1)", "plus": "(one, other)", "minus": "(one, other)",
            "times": "(one, other)", "over": "(one, other)", "less": "(one, other)",
        }
        for name, signature in names.items():
            self.assertEqual(str(inspect.signature(getattr(quotients, name))), signature)


if __name__ == "__main__":
    unittest.main()
