"""WORLDS of floors."""

from turnsall.errors import BadWorld
from turnsall.fields import is_dark, is_field, is_laying_of, layings_of
from turnsall.kinds import is_tuple_of
from turnsall.rises import heights_in


class FloorWorld:
    """A WORLD of a floor: its LEAST SOLUTION, its BLOCKS, and what can be done at each SOLUTION."""

    def __init__(self, field, laying):
        self.word = "floor"
        self.field = field
        self.squares = squares_of(field)
        self.least = self._least_by(laying)
        self.least_heights = heights_in(field, self.least)

    def _least_by(self, laying):
        """The LEAST SOLUTION, any one being told."""
        found = True
        while found:
            found = False
            for block in self.squares:
                if way_of_block(laying, block) == way_when_on(block):
                    laying = block_about(laying, block)
                    found = True
        return laying

    def is_solution(self, value):
        """Whether what plain() told is a SOLUTION."""
        return is_laying_of(self.field, value)

    def times_at(self, solution):
        """The dict of the TIMES of each BLOCK in the SOLUTION."""
        heights = heights_in(self.field, solution)
        times = {}
        for block in self.squares:
            point = (block[0] + 1, block[1] + 1)
            times[block] = (heights[point] - self.least_heights[point]) // 4
        return times

    def turns_at(self, solution):
        """All TURNS that can be done at the SOLUTION."""
        times = self.times_at(solution)
        return [
            block + (times[block],) for block in self.squares
            if way_of_block(solution, block) not in (None, way_when_on(block))
        ]

    def has_turn(self, solution, turn):
        """Whether the TURN can be done at the SOLUTION."""
        return turn in self.turns_at(solution)

    def after(self, solution, turn):
        """The SOLUTION to which a TURN that can be done leads."""
        return block_about(solution, turn[:2])

    def has_done(self, solution, turn):
        """Whether the TURN is one of those that lead to the SOLUTION."""
        return self.times_at(solution)[turn[:2]] > turn[2]


def squares_of(field):
    """All BLOCKS of the FIELD, ascending."""
    return tuple([cell for cell in field if all([other in field for other in square_at(cell)])])


def square_at(block):
    """The four CELLS of the BLOCK, ascending."""
    row, column = block
    return ((row, column), (row, column + 1), (row + 1, column), (row + 1, column + 1))


def lying_tiles(block):
    """The two lying TILES that can have its CELLS."""
    first, second, third, fourth = square_at(block)
    return ((first, second), (third, fourth))


def standing_tiles(block):
    """The two standing TILES that can have its CELLS."""
    first, second, third, fourth = square_at(block)
    return ((first, third), (second, fourth))


def way_of_block(laying, block):
    """Whether the BLOCK is lying or standing in the LAYING, None if it is neither."""
    if all([tile in laying for tile in lying_tiles(block)]):
        return "lying"
    if all([tile in laying for tile in standing_tiles(block)]):
        return "standing"
    return None


def way_when_on(block):
    """What the BLOCK is when it has been turned on."""
    return "standing" if is_dark(block) else "lying"


def block_about(laying, block):
    """The LAYING with the BLOCK turned, on or back; it is lying or standing."""
    old, new = lying_tiles(block), standing_tiles(block)
    if way_of_block(laying, block) == "standing":
        old, new = new, old
    kept = [tile for tile in laying if tile not in old]
    return tuple(sorted(kept + list(new)))


def floor_world(world):
    """The WORLD of a floor that plain() told; BadWorld."""
    if not is_tuple_of(world, 2):
        raise BadWorld("form")
    field = world[1]
    if not is_field(field):
        raise BadWorld("field")
    layings = layings_of(field)
    if not layings:
        raise BadWorld("none")
    return FloorWorld(field, layings[0])
