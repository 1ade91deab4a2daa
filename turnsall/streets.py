"""Towns of streets: what they are made of, and whether their OUTS have a SOLUTION."""

from turnsall.errors import BadOuts, BadPaper, BadSize, BadWays
from turnsall.kinds import is_lot, is_number, plain, starts_with
from turnsall.towns import MOST_SIZE, are_outs, are_ways, corner_count, ends_of, outs_by, sides_of, ways_or_corners


def street_ends(rows, columns):
    """For each street the pair of its corners, the left one or the upper one first."""
    rows = _wanted_size(rows)
    columns = _wanted_size(columns)
    return ends_of(rows, columns)


def street_sides(rows, columns):
    """For each street what is at the right and at the left hand of one who goes to the right, downwards."""
    rows = _wanted_size(rows)
    columns = _wanted_size(columns)
    return sides_of(rows, columns)


def outs_of(rows, columns, ways):
    """The OUTS by which the WAYS are a SOLUTION."""
    rows = _wanted_size(rows)
    columns = _wanted_size(columns)
    plain_ways = plain(ways)
    if not are_ways(plain_ways, rows, columns):
        raise BadWays(ways)
    return outs_by(rows, columns, plain_ways)


def streets_paper(rows, columns, outs):
    """A PAPER on whether there is a SOLUTION."""
    rows = _wanted_size(rows)
    columns = _wanted_size(columns)
    outs = _wanted_outs(rows, columns, outs)
    if sum(outs) != len(ends_of(rows, columns)):
        return ("sum",)
    ways, corners = ways_or_corners(rows, columns, outs)
    if ways is None:
        return ("corners", corners)
    return ("ways", ways)


def check_streets(rows, columns, outs, paper):
    """The first word of a PAPER that holds; BadPaper of any other value."""
    rows = _wanted_size(rows)
    columns = _wanted_size(columns)
    outs = _wanted_outs(rows, columns, outs)
    paper = plain(paper)
    if starts_with(paper, "ways", 2):
        held = are_ways(paper[1], rows, columns) and outs_by(rows, columns, paper[1]) == outs
    elif starts_with(paper, "sum", 1):
        held = sum(outs) != len(ends_of(rows, columns))
    elif starts_with(paper, "corners", 2):
        held = _are_too_few(rows, columns, outs, paper[1])
    else:
        raise BadPaper("form")
    if not held:
        raise BadPaper(paper[0])
    return paper[0]


def _are_too_few(rows, columns, outs, corners):
    """Whether these are corners with fewer OUTS than streets between them."""
    if not is_lot(corners, corner_count(rows, columns)):
        return False
    inner = [pair for pair in ends_of(rows, columns) if pair[0] in corners and pair[1] in corners]
    return sum([outs[corner] for corner in corners]) < len(inner)


def _wanted_size(given):
    size = plain(given)
    if not is_number(size, 1, MOST_SIZE):
        raise BadSize(given)
    return size


def _wanted_outs(rows, columns, given):
    outs = plain(given)
    if not are_outs(outs, rows, columns):
        raise BadOuts(given)
    return outs
