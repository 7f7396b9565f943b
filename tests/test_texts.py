"""Texts of fractions, rows and plates, and what is read from texts."""

import random
import unittest
from fractions import Fraction

from platerest.errors import NoFraction, NoText
from platerest.finer import finer
from platerest.plates import is_plate
from platerest.rests import paper
from platerest.texts import fraction_text, plate_text, read_fraction, read_plate, read_row, row_text
from tests.shapes import GRID, NOUGHT, ONE, PLATES, RING, SQUARE, TRIANGLE, chance_motions, chance_plate, tower, wholes
from tests.things import GREAT, GREATEST, no_wholes, our_row, ours
from tests.wrongs import no_fraction_texts, no_row_texts

TRIANGLE_TEXT = "stuff 1 1\ncorner 0 0\ncorner 1 0\ncorner 0 1\npiece 0 1 2 1"
SQUARE_ROWS = (
    "stuff 1 2", "corner 0 0", "corner 1 0", "corner 0 1", "corner 1 1", "piece 0 1 2 2", "piece 1 2 3 3",
)


def no_texts():
    return [thing for thing in no_wholes() if not isinstance(thing, str)] + [0, 7, b"1", b"stuff 1 1", ["1"], ("1",)]


def figures(number):
    """A whole number's figures, one by one: Python itself doesn't write very long ones."""
    found = []
    left = abs(number)
    while left or not found:
        left, figure = divmod(left, 10 ** 500)
        found.append(str(figure).zfill(500) if left else str(figure))
    return ("-" if number < 0 else "") + "".join(reversed(found))


class Tests(unittest.TestCase):
    def refused(self, row, deed, thing):
        with self.assertRaises(NoText) as caught:
            deed(thing)
        self.assertIs(type(caught.exception), NoText)
        self.assertEqual(caught.exception.row, row)


class Fractions(Tests):
    def test_by_hand(self):
        for fraction, text in (
            ((-3, 4), "-3/4"), ((0, 1), "0"), ((1, 1), "1"), ((-1, 1), "-1"), ((10, 1), "10"), ((1, 10), "1/10"),
            ((-100, 7), "-100/7"), ((7, 2), "7/2"), ((10 ** 60, 1), "1" + "0" * 60),
            ((1 - 10 ** 60, 1), "-" + "9" * 60),
            ((10 ** 60 + 1, 10 ** 120), "1" + "0" * 59 + "1/1" + "0" * 120), ((10 ** 59, 1), "1" + "0" * 59),
            ((GREATEST, 1), "9" * 600), ((1, GREATEST), "1/" + "9" * 600),
        ):
            self.assertEqual(fraction_text(fraction), text)
            self.assertEqual(read_fraction(text), fraction)

    def test_chance(self):
        chance = random.Random(1)
        for turn in range(300):
            most = 10 ** chance.choice((1, 2, 30, 59, 60, 61, 120, 300, 600))
            number = Fraction(chance.randint(-most, most), chance.randint(1, most))
            text = fraction_text(ours(number))
            self.assertEqual(text, str(number))
            self.assertEqual(read_fraction(text), ours(number))

    def test_what_is_none(self):
        for text in no_fraction_texts():
            self.refused(1, read_fraction, text)
        for thing in no_texts():
            self.refused(0, read_fraction, thing)

    def test_other_signs_than_figures(self):
        for text in ("\u0661", "\u00b2", "1/\u0663", "\uff11", "\u00bd", "1\u00a02"):
            self.refused(1, read_fraction, text)
            self.refused(1, read_row, text)

    def test_longer_than_python_writes_at_once(self):
        top, bottom = 7 ** 9000, -(10 ** 9000)
        for fraction in (ours(Fraction(top, bottom)), ours(Fraction(1, 3 ** 20000)), ours(-(3 ** 20000))):
            text = fraction_text(fraction)
            right = figures(fraction[0]) + ("" if fraction[1] == 1 else "/" + figures(fraction[1]))
            self.assertEqual(text, right)
            self.assertEqual(read_fraction(text), fraction)


class Rows(Tests):
    def test_by_hand(self):
        for row, text in (
            ((), "-"), ((NOUGHT,), "0"), (wholes(1, -2, 3), "1 -2 3"), (((1, 2), (-3, 4), ONE), "1/2 -3/4 1"),
            ((NOUGHT,) * 60, " ".join("0" * 60)), (((-1, 1),), "-1"),
        ):
            self.assertEqual(row_text(row), text)
            self.assertEqual(read_row(text), row)

    def test_chance(self):
        chance = random.Random(2)
        for plate in PLATES:
            row = chance_motions(chance, plate)
            self.assertEqual(row_text(row), " ".join(fraction_text(part) for part in row))
            self.assertEqual(read_row(row_text(row)), row)

    def test_what_is_none(self):
        for text in no_row_texts():
            self.refused(1, read_row, text)
        for thing in no_texts():
            self.refused(0, read_row, thing)

    def test_what_was_told_whatever_its_size(self):
        loads = our_row(Fraction(GREATEST - way, GREAT + way) for way in range(16))
        motions = paper(RING, ((0, NOUGHT), (1, NOUGHT), (3, NOUGHT)), loads)[1]
        self.assertGreater(max(len(figures(bottom)) for top, bottom in motions), 4300)
        self.assertEqual(read_row(row_text(motions)), motions)

    def test_many(self):
        row = tuple((at, 1) for at in range(1000))
        self.assertEqual(read_row(row_text(row)), row)


class Plates(Tests):
    def test_by_hand(self):
        self.assertEqual(plate_text(TRIANGLE), TRIANGLE_TEXT)
        self.assertEqual(read_plate(TRIANGLE_TEXT), TRIANGLE)
        self.assertEqual(plate_text(SQUARE), "\n".join(SQUARE_ROWS))
        self.assertEqual(read_plate("\n".join(SQUARE_ROWS)), SQUARE)
        far = (((-100, 100), (100, -7), (0, -100)), ((0, 1, 2),), (9,), (0, 9))
        text = "stuff 0 9\ncorner -100 100\ncorner 100 -7\ncorner 0 -100\npiece 0 1 2 9"
        self.assertEqual((plate_text(far), read_plate(text)), (text, far))

    def test_there_and_back(self):
        chance = random.Random(3)
        for plate in PLATES + (tower(40), finer(SQUARE)) + tuple(chance_plate(chance, 7) for turn in range(10)):
            self.assertEqual(read_plate(plate_text(plate)), plate)

    def test_no_texts(self):
        for thing in no_texts() + [TRIANGLE, list(SQUARE_ROWS)]:
            self.refused(0, read_plate, thing)

    def test_a_wrong_row(self):
        """Each row of a square's text in turn as another one, and the number that is told of it."""
        for at, rows in (
            (0, ("", " ", "stuff", "stuff 1", "stuff 1 2 3", "stuff 10 1", "stuff -1 1", "stuff 1 0", "stuff 1 10",
                 "stuff 01 1", "stuff 1 1/2", "stuff  1 1", " stuff 1 1", "stuff 1 1 ", "Stuff 1 1", "stuff 1\t1",
                 "corner 0 0", "piece 0 1 2 1", "stuff a 1", "stuff -0 1", "stuff +1 1", "stuff1 1")),
            (1, ("", "stuff 1 2", "corner", "corner 0", "corner 0 0 0", "corner 101 0", "corner 0 101", "corner -101 0",
                 "corner 0 -101", "corner 00 0", "corner -0 0", "corner 1/2 0", "corner  0 0", "corner 0 0 ",
                 "Corner 0 0", "piece 0 1 2 2", "corner a b", "corner " + "9" * 900 + " 0", "corner 0 None")),
            (4, ("", "stuff 1 2", "corner 1", "corner 1 101", "corners 1 1", "piece 0 1 3 1")),
            (5, ("", "stuff 1 2", "piece", "piece 0 1 2", "piece 0 1 2 1 1", "piece 0 1 2 0", "piece 0 1 2 10",
                 "piece 0 1 4 1", "piece 0 2 1 1", "piece 0 0 1 1", "piece 0 1 1 1", "piece -1 1 2 1", "piece 1 0 2 1",
                 "piece 0 1 2 1 ", "piece  0 1 2 1", "piece 0 1 2 1/2", "piece 0 1 2 01", "Piece 0 1 2 1",
                 "piece a b c d", "piece 0 1 30 1", "piece 0 1 2 -1", "piece 0 1 2 " + "1" * 900)),
            (6, ("", "stuff 1 2", "corner 7 7", "piece 0 1 2 2", "piece 0 1 2 1", "piece 1 2 4 1", "piece 1 3 2 1")),
        ):
            for row in rows:
                text = "\n".join(SQUARE_ROWS[:at] + (row,) + SQUARE_ROWS[at + 1:])
                self.refused(at + 1, read_plate, text)
                # A second row that is wrong, too, isn't the first one.
                if at < 6:
                    self.refused(at + 1, read_plate, text.rpartition("\n")[0] + "\nx")

    def test_rows_beyond(self):
        text = "\n".join(SQUARE_ROWS)
        for more in ("", " ", "x", "stuff 1 2", "corner 5 5", "piece 0 1 3 1", "piece 1 2 3 3", "piece 1 2 3 4"):
            self.refused(8, read_plate, text + "\n" + more)
        self.refused(1, read_plate, "\n" + text)
        self.refused(1, read_plate, "")
        self.refused(1, read_plate, "stuff 1 1 " + text)
        self.refused(2, read_plate, text.replace("\n", "\n\n"))
        self.refused(1, read_plate, text.replace("\n", " / "))
        self.refused(1, read_plate, text.replace("\n", "\r\n"))
        self.refused(1, read_plate, "~" * 3000)

    def test_three_on_one_line(self):
        rows = ("stuff 1 1", "corner 0 0", "corner 1 1", "corner 2 2", "corner 0 1")
        self.refused(6, read_plate, "\n".join(rows + ("piece 0 1 2 1",)))
        self.refused(7, read_plate, "\n".join(rows + ("piece 0 1 3 1", "piece 0 1 2 1")))

    def test_where_no_plate_comes_of_them(self):
        corners = ("stuff 1 1", "corner 0 0", "corner 2 0", "corner 0 2")
        for rows in (
            corners[:1], corners[:2], corners, corners + ("corner 2 2",), corners + ("corner 2 2", "piece 0 1 2 1"),
            # Two alike, once in no piece, once in one.
            corners + ("corner 0 0", "piece 0 1 2 1"), corners + ("corner 0 0", "piece 1 2 3 1"),
            corners + ("corner 1 0", "piece 0 1 2 1", "piece 0 2 3 1"),
            corners + ("corner 1 1", "corner 2 2", "piece 0 1 2 1", "piece 3 4 5 1")[:3],
            corners + ("corner 2 2", "piece 0 1 2 1", "piece 0 1 3 1"),
        ):
            self.refused(len(rows) + 1, read_plate, "\n".join(rows))

    def test_a_thirty_first_corner(self):
        rows = plate_text(GRID).split("\n")
        self.assertEqual(len(rows), 71)
        self.refused(32, read_plate, "\n".join(rows[:31] + ["corner 99 99"] + rows[31:]))
        self.refused(32, read_plate, "\n".join(rows[:31] + ["corner 99 99"]))
        self.refused(32, read_plate, "\n".join(rows[:31]))

    def test_a_forty_first_piece(self):
        plate = tower(41)
        self.assertFalse(is_plate(plate))
        rows = ["stuff 1 1"] + [f"corner {x} {y}" for x, y in plate[0]]
        rows += [f"piece {a} {b} {c} 1" for a, b, c in plate[1]]
        self.assertEqual(read_plate("\n".join(rows[:-1])), tower(40))
        self.refused(len(rows), read_plate, "\n".join(rows))
        self.refused(len(rows), read_plate, "\n".join(rows + ["x"]))

    def test_pieces_rise(self):
        rows = list(SQUARE_ROWS)
        rows[5], rows[6] = rows[6], rows[5]
        self.refused(7, read_plate, "\n".join(rows))


class Refusals(Tests):
    def test_no_fraction(self):
        for thing in ((2, 4), None, "1"):
            with self.assertRaises(NoFraction):
                fraction_text(thing)
            with self.assertRaises(NoFraction):
                row_text((ONE, thing))


if __name__ == "__main__":
    unittest.main()
