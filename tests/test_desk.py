"""The desk: its lines, what it answers, and what it refuses."""

import inspect
import random
import unittest
from fractions import Fraction

from platerest.bench import Bench
from platerest.desk import Desk
from platerest.errors import (
    NoDeed, NoLine, NoPiece, NoPlate, NoRest, NotHeld, NoThick, NoWay, PlateError,
)
from platerest.frees import firm, free_ways
from platerest.rests import paper
from platerest.strains import stress
from platerest.sums import thickened
from platerest.texts import fraction_text, plate_text, read_plate, row_text
from tests.shapes import APART, BOW, GRID, NOUGHT, PLATES, RING, SQUARE, TRIANGLE, chance_plate, held_by, wholes
from tests.things import GREATEST, deep, no_fractions, no_wholes, ours
from tests.wrongs import no_fraction_texts, no_plates

ASKED = ("paper", "worth", "pulls", "stirred", "firm", "frees", "plate")
HOLDS = ("hold 0 0", "hold 1 0", "hold 3 0")


def said(desk, lines):
    return [desk.say(line) for line in lines]


def pulled():
    desk = Desk(TRIANGLE)
    said(desk, HOLDS + ("load 2 4",))
    return desk


def all_told(desk):
    """What the desk tells to all that is asked, refusals by their class."""
    found = []
    for line in ASKED + ("stress 0",):
        try:
            found.append(desk.say(line))
        except PlateError as error:
            found.append(type(error).__name__)
    return found


class Tests(unittest.TestCase):
    def refused(self, error, deed, *handed):
        with self.assertRaises(error) as caught:
            deed(*handed)
        self.assertIs(type(caught.exception), error)


class Lines(Tests):
    def test_by_hand(self):
        desk = Desk(TRIANGLE)
        self.assertEqual(said(desk, HOLDS + ("load 2 4",)), ["ok"] * 4)
        self.assertEqual(desk.say("paper"), "rest 0 0 3 0 0 -1")
        self.assertEqual(desk.say("worth"), "-6")
        self.assertEqual(desk.say("pulls"), "-4 0 0")
        self.assertEqual(desk.say("stress 0"), "8 0 0")
        self.assertEqual(desk.say("stirred"), "0")
        self.assertEqual(desk.say("firm"), "yes")
        self.assertEqual(desk.say("frees"), "-")
        self.assertEqual(desk.say("plate"), "stuff 1 1 / corner 0 0 / corner 1 0 / corner 0 1 / piece 0 1 2 1")
        self.assertEqual(said(desk, ("thicken 0 2", "load 2 -4/3", "hold 1 1/2")), ["ok"] * 3)
        self.assertEqual(desk.say("paper"), "rest 0 1/2 -1/2 0 1/2 2/3")
        self.assertEqual(desk.say("plate"), "stuff 1 1 / corner 0 0 / corner 1 0 / corner 0 1 / piece 0 1 2 2")
        self.assertEqual(said(desk, ("undo", "undo", "undo", "paper")), ["ok"] * 3 + ["rest 0 0 3 0 0 -1"])
        self.assertEqual(said(desk, ("let 3", "firm", "frees")), ["ok", "no", "4"])
        self.assertEqual(said(desk, ("let 0", "let 1", "frees")), ["ok", "ok", "3 4 5"])
        self.assertEqual(desk.say("paper"), "none 1 0 1 1 0 0")
        self.assertEqual(said(desk, ("undo", "undo", "undo", "undo", "undo", "undo", "undo")), ["ok"] * 7)
        self.assertEqual(said(desk, ("paper", "pulls", "worth", "stress 0")), ["rest 0 0 0 0 0 0", "-", "0", "0 0 0"])

    def test_stirred(self):
        desk = Desk(APART)
        said(desk, [f"hold {way} 0" for way in (0, 1, 3, 6, 7, 9)])
        self.assertEqual(desk.say("stirred"), "-")
        self.assertEqual(said(desk, ("load 4 1", "stirred", "load 10 1", "stirred")), ["ok", "0", "ok", "1"])
        desk = Desk(SQUARE)
        said(desk, HOLDS + ("load 7 1",))
        self.assertEqual(desk.say("stirred"), "0 1")

    def test_refused_as_the_bench_does(self):
        desk = pulled()
        kept = all_told(desk)
        for error, line in (
            (NoWay, "hold 6 1"), (NoWay, "hold -1 1"), (NoWay, "let 6"), (NoWay, "load 99999 1"), (NotHeld, "let 2"),
            (NoPiece, "thicken 1 1"), (NoPiece, "thicken -1 99"), (NoThick, "thicken 0 10"), (NoThick, "thicken 0 -3"),
            (NoThick, "thicken 0 0"), (NoPiece, "stress 1"), (NoPiece, "stress -1"),
        ):
            self.refused(error, desk.say, line)
        self.assertEqual(all_told(desk), kept)
        said(desk, ("undo",) * 4)
        self.refused(NoDeed, desk.say, "undo")
        self.refused(NoDeed, desk.say, "stirred")
        desk.say("load 0 1")
        for line in ("worth", "pulls", "stress 0", "stirred"):
            self.refused(NoRest, desk.say, line)
        self.refused(NoPiece, desk.say, "stress 1")
        self.assertEqual(desk.say("paper"), "none 1 0 1 1 0 0")

    def test_forty_signs(self):
        desk = Desk(TRIANGLE)
        top = "1" + "0" * 38
        for good in (top + "1", "-" + top, "9" * 40, "1/" + "9" * 38, "9" * 19 + "/1" + "0" * 19, "-1/" + "7" * 37):
            self.assertEqual(len(good), 40)
            self.assertEqual(desk.say("load 2 " + good), "ok")
            self.assertEqual(desk.say("hold 2 " + good), "ok")
            self.assertEqual(desk.say("paper").split(" ")[3], good)
        for bad in (top + "11", "-" + top + "1", "9" * 41, "1/" + "9" * 39, "-1/" + "7" * 38):
            self.assertEqual(len(bad), 41)
            self.refused(NoLine, desk.say, "load 2 " + bad)
            self.refused(NoLine, desk.say, "hold 2 " + bad)
        for line, error in (("let {}", NoWay), ("hold {} 1", NoWay), ("load {} 1", NoWay), ("thicken {} 1", NoPiece),
                            ("thicken 0 {}", NoThick), ("stress {}", NoPiece)):
            for sign in ("", "-"):
                self.refused(error, desk.say, line.replace("{}", sign + "7" * (40 - len(sign))))
                self.refused(NoLine, desk.say, line.replace("{}", sign + "7" * (41 - len(sign))))

    def test_no_lines(self):
        desk = pulled()
        kept = all_told(desk)
        things = no_wholes() + no_fractions() + [0, 1, GREATEST, ["undo"], ("undo",), {"undo": 1}, b"undo", deep(10)]
        lines = ["", " ", "nothing", "UNDO", "Undo", "undo ", " undo", "undo 1", "undo\n", "\nundo", "undo\tundo"]
        lines += [word + end for word in ASKED for end in (" ", " 1", "\n", " paper", "s", "\t")]
        lines += [" " + word for word in ASKED] + [word.upper() for word in ASKED]
        lines += ["undo undo", "trial", "trial undo", "len", "holding", "loads", "say", "change", "~" * 3000]
        for word, ends in (
            ("hold", ("", " 5", " 5 1 1", "  5 1", " 5  1", " 5 1 ", "\t5 1", " 5\n1", " 05 1", " -0 1", " 5/2 1")),
            ("hold", (" +5 1", " 5 2/4", " 5 1/1", " 5 0/2", " a 1", " 5 1/0", " 5 -0", " 5 01", " 5 1.5", " 5 1/-2")),
            ("hold", (" 5 a", " 5 -", " - 1")),
            ("let", ("", " 0 0", "  0", " 0 ", " 00", " 0/1", " 1/2", " a", " -")),
            ("load", ("", " 2", " 2 1 1", " 2 2/2", " 2,1", " 2 1,5", " 2 - 1")),
            ("thicken", ("", " 0", " 0 1/2", " 0 01", " 1/2 1", " 0 1 1", " a 1", " 0 a")),
            ("stress", ("", " a", " 0 0", " 1/2", " 00", " -0")),
        ):
            lines += [word + end for end in ends]
        lines += ["hold 5 " + text for text in no_fraction_texts()] + ["load 9 " + text for text in no_fraction_texts()]
        for thing in things + lines:
            self.refused(NoLine, desk.say, thing)
        # Ahead of all else: these would be refused otherwise, too.
        for line in ("hold 99 2/4", "let 99 1", "thicken 9 9 9", "stress 9 9", "load -1 x"):
            self.refused(NoLine, desk.say, line)
        self.assertEqual(all_told(desk), kept)

    def test_other_signs_than_figures(self):
        desk = Desk(TRIANGLE)
        for line in ("let \u0661", "load 2 \u0661", "hold \uff12 1", "hold 2\u00a01", "stress \u00b2"):
            self.refused(NoLine, desk.say, line)

    def test_by_name(self):
        self.assertEqual(Desk(plate=TRIANGLE).say(line="firm"), "no")
        self.assertEqual(list(inspect.signature(Desk.say).parameters), ["self", "line"])

    def test_no_plate(self):
        for thing in no_plates():
            self.refused(NoPlate, Desk, thing)


class Told(Tests):
    def look(self, desk, bench):
        """Look through what a desk tells by a bench on which the same was done."""
        plate, holding, loads = bench.plate(), bench.holding(), bench.loads()
        word, motions = paper(plate, holding, loads)
        held = held_by(holding)
        self.assertEqual(desk.say("paper"), word + " " + row_text(motions))
        self.assertEqual(desk.say("firm"), "yes" if firm(plate, held) else "no")
        self.assertEqual(desk.say("frees"), " ".join(map(str, free_ways(plate, held))) or "-")
        self.assertEqual(desk.say("plate"), plate_text(plate).replace("\n", " / "))
        self.assertEqual(read_plate(desk.say("plate").replace(" / ", "\n")), plate)
        if word == "rest":
            self.assertEqual(desk.say("worth"), fraction_text(bench.worth()))
            self.assertEqual(desk.say("pulls"), row_text(bench.pulls()))
            for piece in range(len(plate[1])):
                self.assertEqual(desk.say(f"stress {piece}"), row_text(stress(plate, motions, piece)))

    def test_known_plates(self):
        for plate in PLATES:
            desk, bench = Desk(plate), Bench(plate)
            self.look(desk, bench)
            for way in (0, 1, 3, 5):
                desk.say(f"hold {way} -1/{way + 2}")
                bench.hold(way, (-1, way + 2))
            desk.say("load 4 7/3")
            bench.load(4, (7, 3))
            self.look(desk, bench)

    def test_chance(self):
        chance = random.Random(1)
        for plate in (SQUARE, BOW, RING, chance_plate(chance, 6)):
            desk, bench = Desk(plate), Bench(plate)
            for turn in range(60):
                line, deed = self.chance_deed(chance, plate)
                try:
                    getattr(bench, deed[0])(*deed[1:])
                except PlateError as error:
                    self.refused(type(error), desk.say, line)
                else:
                    self.assertEqual(desk.say(line), "ok")
                try:
                    right = " ".join(map(str, bench.stirred())) or "-"
                except PlateError as error:
                    self.refused(type(error), desk.say, "stirred")
                else:
                    self.assertEqual(desk.say("stirred"), right)
                if turn % 12 == 0:
                    self.look(desk, bench)

    def chance_deed(self, chance, plate):
        way, piece = chance.randint(-1, 2 * len(plate[0])), chance.randint(-1, len(plate[1]))
        part = ours(Fraction(chance.randint(-4, 4), chance.choice((1, 2, 3))))
        thick = chance.randint(0, 10)
        return chance.choice((
            (f"hold {way} {fraction_text(part)}", ("hold", way, part)),
            (f"load {way} {fraction_text(part)}", ("load", way, part)),
            (f"let {way}", ("let", way)), (f"thicken {piece} {thick}", ("thicken", piece, thick)), ("undo", ("undo",)),
            (f"hold {way} 0", ("hold", way, NOUGHT)),
        ))


class Apart(Tests):
    def test_two_desks_have_nothing_in_common(self):
        one, other = Desk(TRIANGLE), Desk(TRIANGLE)
        kept = all_told(other)
        said(one, HOLDS + ("load 2 4", "thicken 0 9"))
        self.assertEqual(all_told(other), kept)
        self.refused(NoDeed, other.say, "undo")
        self.assertEqual(one.say("undo"), "ok")

    def test_the_same_asked_again(self):
        desk = pulled()
        self.assertEqual(all_told(desk), all_told(desk))
        self.assertEqual(all_told(desk), all_told(pulled()))

    def test_what_is_undone_is_as_if_never_done(self):
        desk = pulled()
        kept = all_told(desk)
        for line in ("hold 5 1/3", "let 0", "load 4 -7", "thicken 0 5", "hold 0 0"):
            desk.say(line)
            desk.say("undo")
            self.assertEqual(all_told(desk), kept)

    def test_the_greatest_plate(self):
        desk = Desk(GRID)
        said(desk, HOLDS + ("load 59 -7/3", "thicken 39 1"))
        plate = thickened(GRID, 39, 1)
        holding = tuple((way, NOUGHT) for way in (0, 1, 3))
        right = paper(plate, holding, wholes(*[0] * 59) + ((-7, 3),))
        self.assertEqual(desk.say("paper"), "rest " + row_text(right[1]))


if __name__ == "__main__":
    unittest.main()
