"""WORLDS of streets: sure streets, GROUPS, still blocks, and how high a block goes."""

from turnsall.errors import BadBlock, BadPaper
from turnsall.kinds import is_lot, is_number, plain, starts_with
from turnsall.roads import road_to, roads_from
from turnsall.streetworlds import steps_by
from turnsall.tables import table_of_word


def sure_streets(world):
    """The pairs (STREET, WAY) of all streets that lead the same way in all SOLUTIONS, ascending."""
    frame = table_of_word(world, "streets").frame
    return tuple([(street, way) for street, way in enumerate(frame.least) if frame.is_sure(street)])


def groups(world):
    """All GROUPS, ascending."""
    return table_of_word(world, "streets").frame.groups


def still_blocks(world):
    """All blocks that hold together with the outside, ascending."""
    return table_of_word(world, "streets").frame.still


def height_paper(world, block):
    """A PAPER on how high the block goes."""
    table = table_of_word(world, "streets")
    frame = table.frame
    block = _wanted_block(frame, block)
    _, before = roads_from(frame.many + 1, steps_by(frame.least_hands), frame.many)
    # A road begins at the outside, a WALK behind it.
    return ("walk", road_to(before, block)[1:], table.greatest)


def check_height(world, block, paper):
    """The height that a PAPER shows which holds; BadPaper of any other value."""
    table = table_of_word(world, "streets")
    frame = table.frame
    block = _wanted_block(frame, block)
    paper = plain(paper)
    if not starts_with(paper, "walk", 3):
        raise BadPaper("form")
    _, walk, ways = paper
    if not _is_walk(frame, walk, block):
        raise BadPaper("walk")
    cost = _cost(frame, walk)
    if not frame.is_solution(ways) or frame.heights_at(ways)[block] != cost:
        raise BadPaper("ways")
    return cost


def _is_walk(frame, walk, block):
    """Whether this is a WALK to the block."""
    if not isinstance(walk, tuple) or not walk or not all([is_number(each, 0, frame.many - 1) for each in walk]):
        return False
    if not is_lot(tuple(sorted(walk)), frame.many) or walk[-1] != block:
        return False
    return all([_streets_between(frame, step) for step in _steps_of(frame, walk)])


def _steps_of(frame, walk):
    """The pairs of what the WALK leaves and what it goes into, the outside first."""
    return list(zip((frame.many,) + walk, walk))


def _streets_between(frame, step):
    """The pairs of what is at both hands in the LEAST SOLUTION, of all streets between both."""
    return [pair for pair in frame.least_hands if pair == step or pair == step[::-1]]


def _cost(frame, walk):
    # A street between has what the step goes into at its left hand if it stands in the pair second, as in the step.
    return len([step for step in _steps_of(frame, walk) if step not in _streets_between(frame, step)])


def _wanted_block(frame, given):
    block = plain(given)
    if not is_number(block, 0, frame.many - 1):
        raise BadBlock(given)
    return block
