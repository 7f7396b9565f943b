"""Rows and rights: solutions, free places, and mixes that show that there is no solution."""

import copy
import inspect
import random
import unittest
from fractions import Fraction

from platerest import rows as module
from platerest.errors import NoRows
from platerest.rows import is_mix, is_solution, settled_each, solved
from tests.shapes import wholes
from tests.things import GREAT, GREATEST, no_fractions, our_row, ours, right_frees, theirs

HALF = (1, 2)
NOUGHT = (0, 1)
ONE = (1, 1)
TWO = (2, 1)


def our_rows(table):
    return tuple(our_row(line) for line in table)


def small(chance):
    return Fraction(chance.randint(-4, 4), chance.choice((1, 1, 1, 2, 3, 5)))


def mixed(chance, lines):
    """A line that is a sum of the others."""
    times = [small(chance) for line in lines]
    return [sum(many * part for many, part in zip(times, parts)) for parts in zip(*lines)]


def chance_table(chance, many, places):
    """A table with some noughts, lines that stand twice, sums of lines, and columns of noughts or alike."""
    table = [[small(chance) * chance.choice((0, 1, 1)) for place in range(places)] for line in range(many)]
    deeds = [chance.random() < 0.4 for deed in range(5)]
    source, goal, other = (chance.randrange(places) for at in range(3))
    for line in table:
        if deeds[0]:
            line[goal] = line[source]
        if deeds[1]:
            line[goal] = line[source] - 2 * line[other]
        if deeds[2]:
            line[other] = Fraction(0)
    if deeds[3] and many > 2:
        table[-1] = mixed(chance, table[:-1])
    if deeds[4] and many > 1:
        table[0] = list(table[1])
    return table


def chance_system(chance):
    """Such a table, and rights that fit or that are put by chance."""
    places = chance.randint(1, 7)
    table = chance_table(chance, chance.randint(1, 7), places)
    if chance.random() < 0.5:
        return table, [small(chance) for line in table]
    seen = [small(chance) for place in range(places)]
    return table, [sum(part * one for part, one in zip(line, seen)) for line in table]


class Tests(unittest.TestCase):
    def refused(self, deed, *handed, **named):
        with self.assertRaises(NoRows) as caught:
            deed(*handed, **named)
        self.assertIs(type(caught.exception), NoRows)

    def refused_by_all(self, rows, rights):
        self.refused(solved, rows, rights)
        for thing in ((), (ONE,), None):
            self.refused(is_solution, rows, rights, thing)
            self.refused(is_mix, rows, rights, thing)

    def are_plain_fractions(self, told, many):
        self.assertIs(type(told), tuple)
        self.assertEqual(len(told), many)
        for part in told:
            self.assertIs(type(part), tuple)
            self.assertEqual(part, ours(theirs(part)))
            self.assertEqual([type(number) for number in part], [int, int])

    def looked_through(self, table, rights):
        """Look the answer through, place by place, with Python's own fractions; its word is told."""
        rows, ends, places = our_rows(table), our_row(rights), len(table[0]) if table else 0
        told = solved(rows, ends)
        self.assertIs(type(told), tuple)
        if told[0] == "solved":
            word, solution, frees = told
            self.are_plain_fractions(solution, places)
            numbers = [theirs(part) for part in solution]
            for line, right in zip(table, rights):
                self.assertEqual(sum(part * one for part, one in zip(line, numbers)), right)
            self.assertEqual(frees, right_frees(table, places))
            for place in frees:
                self.assertEqual(solution[place], NOUGHT)
            self.assertIs(is_solution(rows, ends, solution), True)
        else:
            word, mix = told
            self.assertEqual(word, "none")
            self.are_plain_fractions(mix, len(table))
            self.mix_looked_through(table, rights, [theirs(part) for part in mix])
            self.assertIs(is_mix(rows, ends, mix), True)
        self.assertEqual(solved(rows, ends), told)
        return word

    def mix_looked_through(self, table, rights, times):
        for column in zip(*table):
            self.assertEqual(sum(many * part for many, part in zip(times, column)), 0)
        self.assertNotEqual(sum(many * part for many, part in zip(times, rights)), 0)


class Solved(Tests):
    def test_plain_ones(self):
        self.assertEqual(solved(((ONE, ONE), (ONE, (-1, 1))), ((3, 1), (1, 1))), ("solved", (TWO, ONE), ()))
        self.assertEqual(solved(((TWO, ONE),), (ONE,)), ("solved", (HALF, NOUGHT), (1,)))
        self.assertEqual(solved(((NOUGHT, TWO, ONE),), (ONE,)), ("solved", (NOUGHT, HALF, NOUGHT), (0, 2)))

    def test_no_rows(self):
        self.assertEqual(solved((), ()), ("solved", (), ()))

    def test_rows_of_no_places(self):
        self.assertEqual(solved(((),), (NOUGHT,)), ("solved", (), ()))
        self.assertEqual(solved(((), (), ()), (NOUGHT,) * 3), ("solved", (), ()))
        self.assertEqual(self.looked_through([[]], [Fraction(1)]), "none")
        self.assertEqual(self.looked_through([[], [], []], [Fraction(0), Fraction(-1, 2), Fraction(0)]), "none")
        self.assertEqual(solved(((),) * 60, (NOUGHT,) * 60), ("solved", (), ()))

    def test_one_row(self):
        self.assertEqual(solved(((HALF,),), (ONE,)), ("solved", (TWO,), ()))
        self.assertEqual(solved(((NOUGHT,),), (NOUGHT,)), ("solved", (NOUGHT,), (0,)))
        self.assertEqual(self.looked_through([[Fraction(0)] * 3], [Fraction(5)]), "none")
        self.assertEqual(self.looked_through([[Fraction(0), Fraction(-3, 7), Fraction(2)]], [Fraction(5)]), "solved")

    def test_rows_that_stand_twice(self):
        line = [Fraction(1), Fraction(2), Fraction(-1, 3)]
        self.assertEqual(self.looked_through([line, line], [Fraction(4), Fraction(4)]), "solved")
        self.assertEqual(self.looked_through([line, line], [Fraction(4), Fraction(5)]), "none")

    def test_rows_that_are_sums(self):
        table = [[1, 2, 3], [0, 1, -1], [1, 3, 2], [2, 5, 5]]
        table = [[Fraction(part) for part in line] for line in table]
        self.assertEqual(self.looked_through(table, [Fraction(part) for part in (6, 1, 7, 13)]), "solved")
        self.assertEqual(self.looked_through(table, [Fraction(part) for part in (6, 1, 7, 14)]), "none")
        self.assertEqual(self.looked_through(table, [Fraction(part) for part in (6, 1, 8, 13)]), "none")

    def test_columns_of_noughts_and_columns_alike(self):
        table = our_rows([[0, 1, 1, 0, 2], [0, 2, 2, 0, 5]])
        self.assertEqual(solved(table, (ONE, ONE)), ("solved", our_row([0, 3, 0, 0, -1]), (0, 2, 3)))
        self.assertEqual(solved(our_rows([[0, 0]] * 3), (NOUGHT,) * 3), ("solved", (NOUGHT, NOUGHT), (0, 1)))

    def test_the_frees_hang_on_the_order_of_the_columns(self):
        self.assertEqual(solved(our_rows([[1, 1, 0], [1, 1, 1]]), (ONE, TWO))[2], (1,))
        self.assertEqual(solved(our_rows([[1, 0, 1], [1, 1, 1]]), (ONE, TWO))[2], (2,))
        self.assertEqual(solved(our_rows([[1, 0, 1], [0, 1, 1]]), (ONE, TWO)), ("solved", (ONE, TWO, NOUGHT), (2,)))

    def test_many_by_chance(self):
        chance = random.Random(11)
        words = [self.looked_through(*chance_system(chance)) for at in range(700)]
        self.assertGreater(words.count("solved"), 200)
        self.assertGreater(words.count("none"), 100)

    def test_all_small_ones(self):
        for code in range(3 ** 6):
            parts = [Fraction(code // 3 ** at % 3 - 1) for at in range(6)]
            self.looked_through([parts[:2], parts[2:4]], parts[4:])

    def test_great_numbers(self):
        chance = random.Random(12)
        for many in (1, 2, 3):
            table = [[Fraction(chance.randint(-GREATEST, GREATEST), chance.randint(1, GREATEST)) for place in range(3)]
                     for line in range(many)]
            rights = [Fraction(chance.randint(-GREATEST, GREATEST), GREAT) for line in range(many)]
            self.assertEqual(self.looked_through(table, rights), "solved")
            self.assertEqual(self.looked_through(table + [table[0]], rights + [rights[0] + 1]), "none")

    def test_by_names(self):
        self.assertEqual(solved(rights=(ONE,), rows=((TWO,),)), ("solved", (HALF,), ()))


class Sixty(Tests):
    def table(self, many, places, seed):
        chance = random.Random(seed)
        return [[small(chance) for place in range(places)] for line in range(many)]

    def comes_out(self, table, rights, word):
        rows, ends = our_rows(table), our_row(rights)
        told = solved(rows, ends)
        self.assertEqual(told[0], word)
        if word == "solved":
            numbers = [theirs(part) for part in told[1]]
            for line, right in zip(table, rights):
                self.assertEqual(sum(part * one for part, one in zip(line, numbers)), right)
            self.assertIs(is_solution(rows, ends, told[1]), True)
        else:
            self.mix_looked_through(table, rights, [theirs(part) for part in told[1]])
            self.assertIs(is_mix(rows, ends, told[1]), True)
        return told

    def test_sixty_rows(self):
        table = self.table(60, 60, 21)
        rights = [Fraction(at) for at in range(60)]
        self.assertEqual(self.comes_out(table, rights, "solved")[2], ())

    def test_sixty_rows_of_which_one_is_a_sum(self):
        table = self.table(59, 60, 22)
        table.append([one - 2 * other for one, other in zip(table[0], table[58])])
        rights = [Fraction(at) for at in range(60)]
        self.comes_out(table, rights, "none")
        rights[59] = rights[0] - 2 * rights[58]
        self.assertEqual(self.comes_out(table, rights, "solved")[2], (59,))

    def test_sixty_rows_of_one_place(self):
        self.assertEqual(solved(((ONE,),) * 60, (TWO,) * 60), ("solved", (TWO,), ()))
        self.comes_out([[Fraction(1)]] * 60, [Fraction(2)] * 59 + [Fraction(3)], "none")

    def test_more_places_than_rows(self):
        table = self.table(10, 90, 23)
        self.assertEqual(self.comes_out(table, [Fraction(1)] * 10, "solved")[2], tuple(range(10, 90)))

    def test_sixty_one_are_refused(self):
        self.refused_by_all(((),) * 61, (NOUGHT,) * 61)
        self.refused_by_all(((ONE,),) * 61, (ONE,) * 61)
        self.refused_by_all(((ONE,),) * 61, (ONE,) * 60)
        self.refused_by_all(((ONE,),) * 200, (ONE,) * 200)


class Columns(unittest.TestCase):
    def test_several_rights_at_once(self):
        rows = [wholes(1, 2), wholes(2, 4)]
        goals = [wholes(1, 2), wholes(1, 3), wholes(0, 0), wholes(0, 1), our_row([Fraction(1, 3), Fraction(2, 3)])]
        taken, found = settled_each(rows, goals)
        self.assertEqual(taken, [0])
        self.assertEqual(found, [wholes(1, 0), None, wholes(0, 0), None, our_row([Fraction(1, 3), 0])])
        self.assertEqual(settled_each(rows, []), ([0], []))
        self.assertEqual(settled_each([], [()]), ([], [()]))

    def test_each_as_by_itself(self):
        chance = random.Random(77)
        for turn in range(60):
            many, places = chance.randint(1, 5), chance.randint(0, 5)
            rows = [our_row(chance.randint(-1, 1) for place in range(places)) for row in range(many)]
            goals = [our_row(Fraction(chance.randint(-2, 2), chance.choice((1, 3, 10 ** 50))) for row in rows)
                     for column in range(4)]
            taken, found = settled_each(rows, goals)
            for rights, solution in zip(goals, found):
                told = solved(tuple(rows), rights)
                self.assertEqual(solution, told[1] if told[0] == "solved" else None)


class IsSolution(Tests):
    rows = (((1, 1), (2, 1), (0, 1)), ((0, 1), (0, 1), (1, 3)))
    rights = ((5, 1), (1, 1))

    def test_right_ones(self):
        for numbers in ((5, 0, 3), (1, 2, 3), (0, Fraction(5, 2), 3), (Fraction(-1, 2), Fraction(11, 4), 3)):
            self.assertIs(is_solution(self.rows, self.rights, our_row(numbers)), True)

    def test_wrong_ones(self):
        for numbers in ((5, 0, 2), (5, 1, 3), (0, 0, 0), (1, 2, Fraction(1, 3)), (-5, 0, -3), (10, 0, 6),
                        (5, 0), (5, 0, 3, 0), (), (5,), (GREAT, 0, 3)):
            self.assertIs(is_solution(self.rows, self.rights, our_row(numbers)), False)

    def test_a_row_that_comes_out_is_not_enough(self):
        rows, rights = our_rows([[1, 0], [0, 1], [1, 1]]), our_row([1, 2, 4])
        for numbers in ((1, 2), (1, 3), (2, 2)):
            self.assertIs(is_solution(rows, rights, our_row(numbers)), False)

    def test_of_anything(self):
        for thing in no_fractions():
            if thing != ():
                self.assertIs(is_solution(self.rows, self.rights, thing), False)
            self.assertIs(is_solution(self.rows, self.rights, (thing, NOUGHT, (3, 1))), False)
            self.assertIs(is_solution(self.rows, self.rights, ((5, 1), thing, (3, 1))), False)
            self.assertIs(is_solution(self.rows, self.rights, ((5, 1), NOUGHT, thing)), False)
        self.assertIs(is_solution(self.rows, self.rights, [(5, 1), (0, 1), (3, 1)]), False)
        self.assertIs(is_solution(self.rows, self.rights, {(5, 1): 1, (0, 1): 1, (3, 1): 1}), False)

    def test_not_in_least_terms(self):
        self.assertIs(is_solution(self.rows, self.rights, ((10, 2), NOUGHT, (3, 1))), False)
        self.assertIs(is_solution(self.rows, self.rights, ((5, 1), (0, 2), (3, 1))), False)
        self.assertIs(is_solution(((ONE,),), (ONE,), ((True, 1),)), False)
        self.assertIs(is_solution(((ONE,),), (ONE,), ((1, True),)), False)
        self.assertIs(is_solution(((ONE,),), (ONE,), (ONE,)), True)

    def test_no_rows_and_no_places(self):
        self.assertIs(is_solution((), (), ()), True)
        self.assertIs(is_solution((), (), (NOUGHT,)), False)
        self.assertIs(is_solution((), (), []), False)
        self.assertIs(is_solution((), (), None), False)
        self.assertIs(is_solution(((),), (NOUGHT,), ()), True)
        self.assertIs(is_solution(((),), (ONE,), ()), False)

    def test_by_names(self):
        self.assertIs(is_solution(thing=(HALF,), rights=(ONE,), rows=((TWO,),)), True)


class IsMix(Tests):
    rows = (((1, 1), (2, 1)), ((1, 2), (1, 1)), ((0, 1), (0, 1)), ((1, 1), (0, 1)))
    rights = ((4, 1), (1, 1), (1, 3), (1, 1))

    def test_right_ones(self):
        for numbers in ((1, -2, 0, 0), (-1, 2, 0, 0), (0, 0, 1, 0), (1, -2, 1, 0), (Fraction(-1, 2), 1, 7, 0),
                        (GREAT, -2 * GREAT, 0, 0), (Fraction(1, GREAT), Fraction(-2, GREAT), 0, 0)):
            self.assertIs(is_mix(self.rows, self.rights, our_row(numbers)), True)

    def test_wrong_ones(self):
        for numbers in ((0, 0, 0, 0), (1, -1, 0, 0), (1, 2, 0, 0), (0, 0, 0, 1), (1, -2, -6, 0), (1, -2, 0, 1),
                        (1, -2, 0), (1, -2, 0, 0, 0), (), (1,), (1, 0, 0, -1), (1, 0, 0, 0)):
            self.assertIs(is_mix(self.rows, self.rights, our_row(numbers)), False)

    def test_of_anything(self):
        for thing in no_fractions():
            if thing != ():
                self.assertIs(is_mix(self.rows, self.rights, thing), False)
            self.assertIs(is_mix(self.rows, self.rights, (ONE, (-2, 1), thing, NOUGHT)), False)
            self.assertIs(is_mix(self.rows, self.rights, (thing, thing, ONE, NOUGHT)), False)
            self.assertIs(is_mix(self.rows, self.rights, (NOUGHT, NOUGHT, ONE, thing)), False)
        self.assertIs(is_mix(self.rows, self.rights, [ONE, (-2, 1), NOUGHT, NOUGHT]), False)
        self.assertIs(is_mix(self.rows, self.rights, ((2, 2), (-2, 1), NOUGHT, NOUGHT)), False)
        self.assertIs(is_mix(self.rows, self.rights, ((True, 1), (-2, 1), NOUGHT, NOUGHT)), False)

    def test_where_there_is_a_solution_there_is_none(self):
        rows, rights = our_rows([[1, 2], [2, 4]]), our_row([3, 6])
        for numbers in ((2, -1), (-2, 1), (1, 0), (0, 0), (1, 1)):
            self.assertIs(is_mix(rows, rights, our_row(numbers)), False)

    def test_just_one_of_both_is_there(self):
        chance = random.Random(13)
        for at in range(200):
            table, rights = chance_system(chance)
            rows, ends = our_rows(table), our_row(rights)
            told = solved(rows, ends)
            shows = [is_mix(rows, ends, told[1]), is_solution(rows, ends, told[1])]
            self.assertEqual(shows, [told[0] == "none", told[0] == "solved"])

    def test_no_rows_and_no_places(self):
        self.assertIs(is_mix((), (), ()), False)
        self.assertIs(is_mix((), (), (ONE,)), False)
        self.assertIs(is_mix(((),), (ONE,), (HALF,)), True)
        self.assertIs(is_mix(((),), (ONE,), (NOUGHT,)), False)
        self.assertIs(is_mix(((),), (NOUGHT,), (ONE,)), False)
        self.assertIs(is_mix(((), ()), (ONE, ONE), (ONE, (-1, 1))), False)

    def test_by_names(self):
        self.assertIs(is_mix(thing=(HALF,), rights=(ONE,), rows=((NOUGHT,),)), True)


class Refusals(Tests):
    def test_rows_of_other_kinds(self):
        for thing in no_fractions():
            if thing != ():
                self.refused_by_all(thing, ())
                self.refused_by_all(thing, (ONE,))
            if thing not in ((), (ONE, ONE)):
                self.refused_by_all((thing,), (ONE,))
                self.refused_by_all(((ONE,), thing), (ONE, ONE))
            self.refused_by_all(((thing,),), (ONE,))
            self.refused_by_all(((ONE, thing), (ONE, ONE)), (ONE, ONE))
            self.refused_by_all(((ONE, ONE), (thing, ONE)), (ONE, ONE))

    def test_rows_as_lists(self):
        self.refused_by_all([(ONE,)], (ONE,))
        self.refused_by_all(([ONE],), (ONE,))
        self.refused_by_all((([1, 1],),), (ONE,))
        self.refused_by_all([], ())

    def test_unlike_many_places(self):
        self.refused_by_all(((ONE, ONE), (ONE,)), (ONE, ONE))
        self.refused_by_all(((ONE,), (ONE, ONE)), (ONE, ONE))
        self.refused_by_all(((), (ONE,)), (ONE, ONE))
        self.refused_by_all(((ONE,), ()), (ONE, ONE))
        self.refused_by_all(((ONE,),) * 59 + ((ONE, ONE),), (ONE,) * 60)

    def test_rights_of_other_kinds(self):
        for thing in no_fractions():
            self.refused_by_all(((ONE,),), thing)
            self.refused_by_all(((ONE,),), (thing,))
            self.refused_by_all(((ONE,), (TWO,)), (ONE, thing))
            self.refused_by_all(((), ()), (thing, NOUGHT))
            if thing != ():
                self.refused_by_all((), thing)

    def test_too_few_and_too_many_rights(self):
        self.refused_by_all(((ONE,), (TWO,)), (ONE,))
        self.refused_by_all(((ONE,), (TWO,)), ())
        self.refused_by_all(((ONE,), (TWO,)), (ONE, ONE, ONE))
        self.refused_by_all((), (ONE,))
        self.refused_by_all(((),), ())
        self.refused_by_all(((ONE,),), [ONE])
        self.refused_by_all(((ONE,),), ([1, 1],))

    def test_rows_and_rights_go_ahead_of_the_thing(self):
        for thing in no_fractions():
            self.refused(is_solution, [], (), thing)
            self.refused(is_mix, (), [], thing)
            self.refused(is_solution, thing=thing, rights=(ONE, ONE), rows=((ONE,),))
            self.refused(is_mix, thing=thing, rights=(ONE,), rows=(((2, 2),),))


class Asking(Tests):
    def test_what_is_handed_in_is_as_it_was(self):
        for thing in no_fractions() + [[(ONE,), [ONE]], {"rows": [(ONE,)]}]:
            kept = copy.deepcopy(thing)
            is_solution(((ONE,),), (ONE,), thing)
            is_mix(((ONE,),), (ONE,), thing)
            self.refused(solved, ((thing,),), (ONE,))
            self.refused(solved, ((ONE,),), (thing,))
            self.assertEqual(repr(thing), repr(kept))

    def test_arguments_have_their_names(self):
        names = {
            "solved": "(rows, rights)", "is_solution": "(rows, rights, thing)", "is_mix": "(rows, rights, thing)",
        }
        for name, signature in names.items():
            self.assertEqual(str(inspect.signature(getattr(module, name))), signature)


if __name__ == "__main__":
    unittest.main()
