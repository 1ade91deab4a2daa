"""WORLDS of streets: rims, blocks that go round and back, and HEIGHTS."""

from turnsall.errors import BadBlocks, BadHeights
from turnsall.kinds import is_lot, is_tuple_of, plain
from turnsall.tables import table_of_word


def rim(world, blocks):
    """The streets at the rim of the blocks, ascending."""
    frame = table_of_word(world, "streets").frame
    return frame.rim_of(_wanted_blocks(frame, blocks))


def can_go_round(world, solution, blocks):
    """Whether each street at their rim has one of the blocks at its right hand."""
    return _can_go(world, solution, blocks, 0)


def can_go_back(world, solution, blocks):
    """Whether each street at their rim has one of the blocks at its left hand."""
    return _can_go(world, solution, blocks, 1)


def _can_go(world, solution, blocks, spot):
    table = table_of_word(world, "streets")
    solution = table.wanted_solution(solution)
    return table.frame.have_at_hand(solution, _wanted_blocks(table.frame, blocks), spot)


def gone_round(world, solution, blocks):
    """The SOLUTION that comes of it if the blocks go round; BadBlocks of ones that cannot."""
    table = table_of_word(world, "streets")
    solution = table.wanted_solution(solution)
    plain_blocks = _wanted_blocks(table.frame, blocks)
    if not table.frame.have_at_hand(solution, plain_blocks, 0):
        raise BadBlocks(blocks)
    return table.frame.round_about(solution, plain_blocks)


def heights(world, solution):
    """The HEIGHTS of the SOLUTION."""
    table = table_of_word(world, "streets")
    return table.frame.heights_at(table.wanted_solution(solution))


def at_heights(world, some):
    """The SOLUTION with these HEIGHTS; BadHeights of any value that is none."""
    frame = table_of_word(world, "streets").frame
    numbers = plain(some)
    if not is_tuple_of(numbers, frame.many) or not all([isinstance(number, int) for number in numbers]):
        raise BadHeights(some)
    ways = frame.ways_at(numbers)
    if ways is None:
        raise BadHeights(some)
    return ways


def _wanted_blocks(frame, given):
    blocks = plain(given)
    if blocks == () or not is_lot(blocks, frame.many):
        raise BadBlocks(given)
    return blocks
