"""Rows of fractions and their rights: solutions, free places, and mixes that show that there is no solution."""

from platerest.divisors import divisor
from platerest.errors import NoRows
from platerest.quotients import NOUGHT, ONE, are_fractions, levelled, mixed, multiple, reduced

MOST_ROWS = 60
LESS_ONE = (-1, 1)


def places_of(rows):
    """How many places each of the rows has."""
    return len(rows[0]) if rows else 0


def are_rows(thing):
    """Whether the thing, whatever it is, is rows."""
    if not isinstance(thing, tuple) or len(thing) > MOST_ROWS:
        return False
    if not all([isinstance(row, tuple) for row in thing]):
        return False
    places = places_of(thing)
    return all([are_fractions(row, places) for row in thing])


def look_at_rows(rows, rights):
    """Refuse what is no rows, then what is no rights of them."""
    if not are_rows(rows):
        raise NoRows("the rows are no tuple of none to sixty tuples of equally many fractions")
    if not are_fractions(rights, len(rows)):
        raise NoRows("the rights are no tuple with a fraction for each row")


def in_common(parts, known):
    """The greatest divisor that the parts and what is known have in common."""
    common = abs(known)
    for part in parts:
        if common == 1:
            break
        common = divisor(part, common)
    return common


def scale_of(line):
    """The fraction by which the line's fractions become whole numbers with no divisor in common but 1."""
    common = in_common([top for top, bottom in line], 0)
    return (multiple([bottom for top, bottom in line]), common) if common else ONE


def whole(line):
    """Whole numbers, with no divisor in common but 1, that stand to one another as the line's fractions do."""
    many, common = scale_of(line)
    return [top // common * (many // bottom) for top, bottom in line]


def comes_to_nought(weights, line):
    """Whether the line's fractions, each so many times, come to nought."""
    return sum([weight * part for weight, part in zip(weights, whole(line))]) == 0


def head_of(left, place):
    """Which line has the least number at the place that isn't 0; None where all are 0."""
    heads = [at for at, (known, line) in enumerate(left) if line[place] != 0]
    return min(heads, key=lambda at: abs(left[at][1][place]), default=None)


def cleared(known, line, head, place):
    """The line made nought at the place by the head, with what is known for the next time.

    Where every line meets every head, the number of the head that the line met before divides all
    of it, as all numbers are minors of the first lines then: so it is enough to look for a divisor
    in that one, and the numbers don't grow beyond the minors.
    """
    many = line[place]
    if many == 0:
        return (known, line)
    top = head[place]
    parts = [top * own - many * its for own, its in zip(line, head)]
    common = in_common(parts, known)
    if common > 1:
        parts = [part // common for part in parts]
    return (top, parts)


def stepped(lines, places):
    """Lines of whole numbers brought to steps: a list of (place, line), the line nought ahead of the place
    and the places rising; and the list of the lines left, which are nought at all places."""
    steps = []
    left = [(1, line) for line in lines]
    for place in range(places):
        at = head_of(left, place)
        if at is not None:
            head = left.pop(at)[1]
            steps.append((place, head))
            left = [cleared(known, line, head, place) for known, line in left]
    return (steps, [line for known, line in left])


def put_at(place, line, found):
    """What has to stand at the place so that the line comes to its last number, with what was found behind it."""
    terms = [(many, part) for many, part in zip(line[place + 1:], found[place + 1:]) if many != 0 and part[0] != 0]
    bottom = multiple([part[1] for many, part in terms])
    others = sum([many * part[0] * (bottom // part[1]) for many, part in terms])
    return reduced(bottom * line[-1] - others, bottom * line[place])


def filled(steps, found):
    """A list of what was found, with what has to stand at the place of each step, the last of them first."""
    told = list(found)
    for place, line in reversed(steps):
        told[place] = put_at(place, line, told)
    return told


def rights_to(rows, rights):
    """The rights, each times as many as its row is where it is made whole."""
    scales = [scale_of(row) for row in rows]
    return [mixed((many,), (right,), common) for (many, common), right in zip(scales, rights)]


def factors_of(bottoms):
    """Numbers whose product is the least number that each of the bottoms divides."""
    many = 1
    found = []
    for bottom in bottoms:
        factor = bottom // divisor(many, bottom)
        if factor > 1:
            many *= factor
            found.append(factor)
    return found


def lowered(part, factors):
    """A fraction by all of the factors, one by one, as each of these is far smaller than their product."""
    top, bottom = part
    for factor in factors:
        common = divisor(top, factor)
        top //= common
        bottom *= factor // common
    return (top, bottom)


def settled_by(steps, places, at):
    """The solution that the steps have with their right of that number, nought at each place without a step."""
    lines = [(place, line[:places] + [line[places + at]]) for place, line in steps]
    return filled(lines, [NOUGHT] * places)


def settled_each(rows, columns):
    """The places that aren't free, and for each column of rights the solution that is nought at all others; None
    where there is none.

    Nothing is looked at here, so there may be more rows than are handed in from outside. The rights of a column are
    brought to one bottom, which is taken back at the end: so great bottoms of theirs don't come into the rows.
    """
    places = places_of(rows)
    ends = [rights_to(rows, rights) for rights in columns]
    tops = [levelled(parts)[0] for parts in ends]
    lines = [whole(row) + [column[at] for column in tops] for at, row in enumerate(rows)]
    steps, left = stepped(lines, places)
    found = []
    for at, parts in enumerate(ends):
        if any([line[places + at] != 0 for line in left]):
            found.append(None)
        else:
            factors = factors_of([bottom for top, bottom in parts])
            found.append(tuple([lowered(part, factors) for part in settled_by(steps, places, at)]))
    return ([place for place, line in steps], found)


def settled(rows, rights):
    """The same of one column of rights alone: the places that aren't free, and the solution or None."""
    taken, found = settled_each(rows, [rights])
    return (taken, found[0])


def mix_of(rows, rights, taken):
    """A mix of rows that have no solution: one by which the rights come to 1.

    The columns of the places that aren't free are enough, as all others are mixes of these.
    """
    columns = [tuple([row[place] for row in rows]) for place in taken]
    goals = [NOUGHT] * len(columns) + [ONE]
    return settled(columns + [rights], goals)[1]


def solved(rows, rights):
    """("solved", solution, frees), or ("none", mix) where there is no solution."""
    look_at_rows(rows, rights)
    taken, solution = settled(rows, rights)
    if solution is None:
        return ("none", mix_of(rows, rights, taken))
    frees = [place for place in range(places_of(rows)) if place not in taken]
    return ("solved", solution, tuple(frees))


def is_solution(rows, rights, thing):
    """Whether the thing, whatever it is, is a solution."""
    look_at_rows(rows, rights)
    if not are_fractions(thing, places_of(rows)):
        return False
    weights = whole(thing + (LESS_ONE,))
    return all([comes_to_nought(weights, row + (right,)) for row, right in zip(rows, rights)])


def is_mix(rows, rights, thing):
    """Whether the thing, whatever it is, is a mix that shows that there is no solution."""
    look_at_rows(rows, rights)
    if not are_fractions(thing, len(rows)):
        return False
    weights = whole(thing)
    if comes_to_nought(weights, rights):
        return False
    columns = [[row[place] for row in rows] for place in range(places_of(rows))]
    return all([comes_to_nought(weights, column) for column in columns])
