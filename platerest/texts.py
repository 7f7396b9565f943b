"""Fractions, rows of fractions and plates written as texts, and read from just such texts."""

from platerest.errors import NoFraction, NoText
from platerest.plates import MOST_CORNERS, MOST_PIECES, THICKEST, is_between, is_corner, is_piece
from platerest.plates import is_plate, is_stuff, look_at_plate
from platerest.quotients import are_fractions, is_fraction, look_at_fraction

# Python refuses to write or read very long numbers at once, so they are written and read by so many figures.
AT_ONCE = 60
BASE = 10 ** 60


def whole_text(number):
    """A whole number in figures."""
    sign = "-" if number < 0 else ""
    left = abs(number)
    found = []
    while left >= BASE:
        left, low = divmod(left, BASE)
        found.append(str(low).zfill(AT_ONCE))
    found.append(str(left))
    return sign + "".join(found[::-1])


def number_of(figures):
    """The whole number that figures are."""
    ahead = len(figures) % AT_ONCE
    number = int(figures[:ahead]) if ahead else 0
    for at in range(ahead, len(figures), AT_ONCE):
        number = number * BASE + int(figures[at:at + AT_ONCE])
    return number


def whole_in(text):
    """The whole number that is just so written; None where none is."""
    figures = text.removeprefix("-")
    if not figures.isascii() or not figures.isdigit():
        return None
    if figures.startswith("0") and text != "0":
        return None
    number = number_of(figures)
    return -number if text.startswith("-") else number


def written(fraction):
    """A fraction as a text; nothing is looked at."""
    top, bottom = fraction
    return whole_text(top) if bottom == 1 else f"{whole_text(top)}/{whole_text(bottom)}"


def fraction_in(text):
    """The fraction that is just so written; None where none is."""
    over, bar, under = text.partition("/")
    top = whole_in(over)
    bottom = whole_in(under) if bar else 1
    # A bottom of 1 is never written.
    if bar and bottom == 1:
        return None
    return (top, bottom) if is_fraction((top, bottom)) else None


def listed(texts):
    """Texts with a blank between each two, a minus of none."""
    return " ".join(texts) if texts else "-"


def row_written(row):
    """A row of fractions as a text; nothing is looked at."""
    return listed([written(part) for part in row])


def look_at_text(thing):
    """Refuse what is no text."""
    if not isinstance(thing, str):
        raise NoText(0)


def fraction_text(fraction):
    """A fraction as a text."""
    look_at_fraction(fraction)
    return written(fraction)


def row_text(row):
    """A tuple of fractions as a text."""
    if not isinstance(row, tuple) or not are_fractions(row, len(row)):
        raise NoFraction("that is no tuple of fractions")
    return row_written(row)


def plate_rows(plate):
    """The rows in which a plate is written; nothing is looked at."""
    corners, pieces, thicks, stuff = plate
    rows = [f"stuff {stuff[0]} {stuff[1]}"]
    rows += [f"corner {x} {y}" for x, y in corners]
    return rows + [f"piece {a} {b} {c} {thick}" for (a, b, c), thick in zip(pieces, thicks)]


def plate_text(plate):
    """A plate as a text."""
    look_at_plate(plate)
    return "\n".join(plate_rows(plate))


def read_fraction(text):
    """The fraction that is written in a text."""
    look_at_text(text)
    found = fraction_in(text)
    if found is None:
        raise NoText(1)
    return found


def read_row(text):
    """The tuple of fractions that is written in a text."""
    look_at_text(text)
    found = [] if text == "-" else [fraction_in(word) for word in text.split(" ")]
    if None in found:
        raise NoText(1)
    return tuple(found)


def may_be_piece(found, numbers):
    """Whether the numbers may stand in the next row of a piece, behind what was found."""
    ahead = found["piece"]
    if len(numbers) != 4 or len(ahead) == MOST_PIECES or not is_between(numbers[3], 1, THICKEST):
        return False
    piece = numbers[:3]
    return is_piece(found["corner"], piece) and (len(ahead) == 0 or ahead[-1][:3] < piece)


def may_follow(found, word, numbers):
    """Whether a row of the word and the numbers may stand behind what was found."""
    if word == "stuff":
        return len(found["stuff"]) == 0 and is_stuff(numbers)
    if word == "corner":
        in_place = len(found["stuff"]) == 1 and len(found["piece"]) == 0
        return in_place and len(found["corner"]) < MOST_CORNERS and is_corner(numbers)
    return word == "piece" and may_be_piece(found, numbers)


def read_plate(text):
    """The plate that is written in a text."""
    look_at_text(text)
    found = {"stuff": [], "corner": [], "piece": []}
    rows = text.split("\n")
    for at, row in enumerate(rows, start=1):
        word, *others = row.split(" ")
        numbers = tuple([whole_in(other) for other in others])
        if not may_follow(found, word, numbers):
            raise NoText(at)
        found[word].append(numbers)
    pieces = tuple([numbers[:3] for numbers in found["piece"]])
    thicks = tuple([numbers[3] for numbers in found["piece"]])
    plate = (tuple(found["corner"]), pieces, thicks, found["stuff"][0])
    if not is_plate(plate):
        raise NoText(len(rows) + 1)
    return plate
