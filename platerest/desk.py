"""A desk that keeps a bench and is told lines."""

from platerest.bench import DEEDS, Bench, do_deed
from platerest.errors import NoLine
from platerest.frees import free_ways
from platerest.plates import look_at_piece
from platerest.rests import rest_told
from platerest.strains import stress_by
from platerest.texts import fraction_in, listed, plate_rows, row_written, whole_in, written
from platerest.ways import held_by

LONGEST = 40
# Each line's word, with what is handed to it: W a whole number, F a fraction.
FORMS = {
    "hold": "WF", "let": "W", "load": "WF", "thicken": "WW", "undo": "", "paper": "", "worth": "", "pulls": "",
    "stress": "W", "stirred": "", "firm": "", "frees": "", "plate": "",
}


def thing_in(word, kind):
    """The whole number or the fraction that a word of a line is; None where it is none, or is too long."""
    if len(word) > LONGEST:
        return None
    return whole_in(word) if kind == "W" else fraction_in(word)


def line_in(line):
    """A line's word and the things that are handed to it, in a tuple; None where it is no line."""
    if not isinstance(line, str):
        return None
    word, *others = line.split(" ")
    kinds = FORMS.get(word)
    if kinds is None or len(kinds) != len(others):
        return None
    things = [thing_in(other, kind) for other, kind in zip(others, kinds)]
    return None if None in things else (word,) + tuple(things)


def numbers_text(numbers):
    """Whole numbers with a blank between each two, a minus of none."""
    return listed([str(number) for number in numbers])


def frees_of(bench):
    """The free ways of the bench's plate and its held ways."""
    return free_ways(bench.plate(), held_by(bench.holding()))


def say_paper(bench):
    """The paper's word and its motions."""
    word, motions = bench.paper()
    return f"{word} {row_written(motions)}"


def say_worth(bench):
    """The worth of the rest."""
    return written(bench.worth())


def say_pulls(bench):
    """The pulls by the told rest."""
    return row_written(bench.pulls())


def say_stirred(bench):
    """The pieces that the last deed has stirred."""
    return numbers_text(bench.stirred())


def say_firm(bench):
    """Whether the plate is firm with the held ways."""
    return "no" if frees_of(bench) else "yes"


def say_frees(bench):
    """The free ways."""
    return numbers_text(frees_of(bench))


def say_plate(bench):
    """The plate's text in one line."""
    return " / ".join(plate_rows(bench.plate()))


def say_stress(bench, piece):
    """The stress of a piece by the told rest."""
    plate = bench.plate()
    look_at_piece(plate, piece)
    return row_written(stress_by(plate, rest_told(plate, bench.holding(), bench.loads()), piece))


ANSWERS = {
    "paper": say_paper, "worth": say_worth, "pulls": say_pulls, "stirred": say_stirred, "firm": say_firm,
    "frees": say_frees, "plate": say_plate,
}


class Desk:
    """A bench of a plate, told by lines what to do and what to tell."""

    def __init__(self, plate):
        self.bench = Bench(plate)

    def say(self, line):
        """Do what the line says, or tell what it asks."""
        said = line_in(line)
        if said is None:
            raise NoLine("that is no line of the desk")
        word = said[0]
        if word in DEEDS:
            do_deed(self.bench, said)
            return "ok"
        if word == "stress":
            return say_stress(self.bench, said[1])
        answer = ANSWERS[word]
        return answer(self.bench)
