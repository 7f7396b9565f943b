"""All names that the document tells are there, in their modules, with their arguments."""

import importlib
import inspect
import pathlib
import subprocess
import sys
import unittest

FUNCTIONS = {
    "quotients": ("is_fraction(thing)", "made(top, bottom=1)", "plus(one, other)", "minus(one, other)",
                  "times(one, other)", "over(one, other)", "less(one, other)"),
    "rows": ("solved(rows, rights)", "is_solution(rows, rights, thing)", "is_mix(rows, rights, thing)"),
    "plates": ("is_plate(thing)", "sides(plate)", "rim(plate)", "parts(plate)", "room(plate)"),
    "strains": ("strain(plate, motions, piece)", "stress(plate, motions, piece)", "are_stresses(plate, thing)",
                "stresses(plate, motions)", "pushes(plate, stresses)", "worth_of(plate, motions)",
                "stress_worth(plate, stresses)"),
    "frees": ("is_free(plate, held, thing)", "free_motions(plate, held=())", "free_ways(plate, held=())",
              "firm(plate, held=())"),
    "rests": ("is_rest(plate, holding, loads, thing)", "is_runaway(plate, holding, loads, thing)",
              "paper(plate, holding, loads)", "pulls(plate, holding, loads, motions)"),
    "bounds": ("above(plate, holding, loads, motions)", "below(plate, holding, loads, stresses)",
               "worth(plate, holding, loads)", "gap(plate, holding, loads, motions)",
               "step(plate, holding, loads, motions, way)", "swept(plate, holding, loads, motions, *, rounds=1)"),
    "frames": ("frame_of(plate, lot)", "with_loads(frame, loads)", "joined(one, other)", "led(frame, kept)",
               "inner(frame, kept, motions)", "frame_rest(frame, holding)"),
    "finer": ("finer(plate)", "carried(plate, motions)", "loads_over(plate, loads)"),
    "turnings": ("is_turning(plate, thing)", "turnings(plate)", "turned(plate, turning, motions)",
                 "even(plate, motions)"),
    "sums": ("influence(plate, held, way, other)", "influences(plate, held)",
             "summed(plate, one, other, *, first=(1, 1), second=(1, 1))", "thickened(plate, piece, thick)"),
    "texts": ("fraction_text(fraction)", "plate_text(plate)", "row_text(row)", "read_fraction(text)",
              "read_plate(text)", "read_row(text)"),
}
METHODS = {
    ("bench", "Bench"): ("__init__(self, plate)", "hold(self, way, move)", "let(self, way)", "load(self, way, amount)",
                         "thicken(self, piece, thick)", "undo(self)", "plate(self)", "holding(self)", "loads(self)",
                         "paper(self)", "pulls(self)", "worth(self)", "stirred(self)", "trial(self, deeds)",
                         "__len__(self)", "__eq__(self, other)"),
    ("desk", "Desk"): ("__init__(self, plate)", "say(self, line)"),
}


def module(name):
    return importlib.import_module("platerest." + name)


class Tests(unittest.TestCase):
    def test_functions(self):
        for name, written in FUNCTIONS.items():
            for text in written:
                deed = getattr(module(name), text.partition("(")[0])
                self.assertEqual(deed.__name__ + str(inspect.signature(deed)), text)
                self.assertEqual(deed.__module__, "platerest." + name)

    def test_methods(self):
        for (name, title), written in METHODS.items():
            for text in written:
                deed = getattr(getattr(module(name), title), text.partition("(")[0])
                self.assertEqual(deed.__name__ + str(inspect.signature(deed)), text)

    def test_each_module_stands_by_itself(self):
        root = str(pathlib.Path(__file__).resolve().parent.parent)
        for name in list(FUNCTIONS) + ["errors", "bench", "desk"]:
            ran = subprocess.run([sys.executable, "-c", f"import platerest.{name}"], cwd=root, capture_output=True)
            self.assertEqual((ran.returncode, ran.stdout, ran.stderr), (0, b"", b""), name)


if __name__ == "__main__":
    unittest.main()
