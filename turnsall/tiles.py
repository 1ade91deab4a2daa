"""BLOCKS of FIELDS: how they lie, how they are turned, and how often they were."""

from turnsall.errors import BadBlock
from turnsall.floorworlds import block_about, squares_of, way_of_block
from turnsall.tables import table_of_word
from turnsall.wantedfields import wanted_block, wanted_field, wanted_laying


def blocks_of(field):
    """All BLOCKS, ascending."""
    return squares_of(wanted_field(field))


def way_of(field, laying, block):
    """Whether the BLOCK is "lying" or "standing" in the LAYING, None if it is neither."""
    field = wanted_field(field)
    laying = wanted_laying(field, laying)
    return way_of_block(laying, wanted_block(field, block))


def block_turned(field, laying, block):
    """The LAYING with the BLOCK turned, on or back; BadBlock of one that is neither lying nor standing."""
    field = wanted_field(field)
    laying = wanted_laying(field, laying)
    plain_block = wanted_block(field, block)
    if way_of_block(laying, plain_block) is None:
        raise BadBlock(block)
    return block_about(laying, plain_block)


def standing_in(field, laying):
    """How many standing TILES the LAYING has."""
    laying = wanted_laying(wanted_field(field), laying)
    return len([tile for tile in laying if tile[0][0] != tile[1][0]])


def times_of(world, solution, block):
    """How often the BLOCK was turned on since the LEAST SOLUTION."""
    table = table_of_word(world, "floor")
    solution = table.wanted_solution(solution)
    return table.frame.times_of_block(solution, wanted_block(table.frame.field, block))
