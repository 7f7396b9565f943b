"""A bench on which a plate is held, loaded and made thicker or thinner, deed by deed, each of which is taken back."""

from platerest.bounds import worth_told
from platerest.errors import NoDeed, NoDeeds, NotHeld
from platerest.plates import look_at_piece, look_at_plate
from platerest.quotients import NOUGHT, look_at_fraction
from platerest.rests import paper_of, pulls_by, rest_told
from platerest.strains import stresses_by
from platerest.sums import look_at_thick, thick_at
from platerest.ways import held_by, look_at_way, ways_of

# Each deed's word, with how many things it is handed.
DEEDS = {"hold": 2, "let": 1, "load": 2, "thicken": 2, "undo": 0}
MOST_DEEDS = 20


def is_deed(thing):
    """Whether the thing, whatever it is, is a tuple of a deed's word and as many things as it is handed."""
    if not isinstance(thing, tuple) or len(thing) == 0 or not isinstance(thing[0], str):
        return False
    return len(thing) - 1 == DEEDS.get(thing[0])


def are_deeds(thing):
    """Whether the thing, whatever it is, is a list or tuple of at most twenty deeds."""
    if not isinstance(thing, (list, tuple)) or len(thing) > MOST_DEEDS:
        return False
    return all([is_deed(part) for part in thing])


def do_deed(bench, deed):
    """Do on a bench what a deed's word says, with what it is handed."""
    word = deed[0]
    if word == "hold":
        bench.hold(deed[1], deed[2])
    elif word == "let":
        bench.let(deed[1])
    elif word == "load":
        bench.load(deed[1], deed[2])
    elif word == "thicken":
        bench.thicken(deed[1], deed[2])
    else:
        bench.undo()


def stresses_at(state):
    """The stresses by a rest of a plate, a holding and loads; refused where there is none."""
    plate, holding, loads = state
    return stresses_by(plate, rest_told(plate, holding, loads))


class Bench:
    """A plate with a holding and loads, and with how it was ahead of each deed that stands."""

    def __init__(self, plate):
        look_at_plate(plate)
        self.now = (plate, (), (NOUGHT,) * ways_of(plate))
        self.past = []

    def __eq__(self, other):
        return isinstance(other, Bench) and self.now == other.now

    def __len__(self):
        return len(self.past)

    def change(self, plate, holding, loads):
        """Put a plate, a holding and loads in the place of what is there, as one deed."""
        self.past.append(self.now)
        self.now = (plate, holding, loads)

    def hold(self, way, move):
        """Hold a way at a move, whether it is held already or not."""
        plate, holding, loads = self.now
        look_at_way(plate, way)
        look_at_fraction(move)
        moves = dict(holding)
        moves[way] = move
        self.change(plate, tuple(sorted(moves.items())), loads)

    def let(self, way):
        """Let a held way go."""
        plate, holding, loads = self.now
        look_at_way(plate, way)
        if way not in held_by(holding):
            raise NotHeld("the way isn't held")
        self.change(plate, tuple([part for part in holding if part[0] != way]), loads)

    def load(self, way, amount):
        """Set the load of a way."""
        plate, holding, loads = self.now
        look_at_way(plate, way)
        look_at_fraction(amount)
        self.change(plate, holding, loads[:way] + (amount,) + loads[way + 1:])

    def thicken(self, piece, thick):
        """Set the thickness of a piece."""
        plate, holding, loads = self.now
        look_at_piece(plate, piece)
        look_at_thick(thick)
        self.change(thick_at(plate, piece, thick), holding, loads)

    def look_at_past(self):
        """Refuse where no deed stands."""
        if len(self.past) == 0:
            raise NoDeed("no deed stands")

    def undo(self):
        """Take the last deed that stands back."""
        self.look_at_past()
        self.now = self.past.pop()

    def plate(self):
        """The plate as it is now."""
        return self.now[0]

    def holding(self):
        """The holding as it is now."""
        return self.now[1]

    def loads(self):
        """The loads as they are now."""
        return self.now[2]

    def paper(self):
        """("rest", motions), or ("none", motions) with a runaway where there is no rest."""
        plate, holding, loads = self.now
        return paper_of(plate, holding, loads)

    def worth(self):
        """The worth of the rest."""
        plate, holding, loads = self.now
        return worth_told(plate, holding, loads)

    def pulls(self):
        """The pulls of the holding by the told rest."""
        plate, holding, loads = self.now
        return pulls_by(plate, holding, loads, rest_told(plate, holding, loads))

    def stirred(self):
        """The rising list of the pieces whose stress by a rest the last deed that stands has changed."""
        self.look_at_past()
        ahead = stresses_at(self.past[-1])
        behind = stresses_at(self.now)
        return [number for number, (one, other) in enumerate(zip(ahead, behind)) if one != other]

    def trial(self, deeds):
        """What the paper would be behind the deeds, which are done on another bench that is like this one."""
        if not are_deeds(deeds):
            raise NoDeeds("the deeds are no list or tuple of at most twenty deeds")
        other = Bench(self.now[0])
        other.now = self.now
        other.past = list(self.past)
        for deed in deeds:
            do_deed(other, deed)
        return other.paper()
