"""WORLDS of floors."""

from turnsall.errors import BadWorld
from turnsall.fields import first_laying, is_dark, is_field, is_laying_of, tiles_of
from turnsall.frames import WorldFrame
from turnsall.kinds import is_tuple_of


class FloorWorld(WorldFrame):
    """A WORLD of a floor: its LEAST SOLUTION, its BLOCKS, and what can be done at each SOLUTION.

    A state is a pair: the TILES of the SOLUTION as bits, and the tuple of the TIMES of all BLOCKS.
    """

    def __init__(self, field, laying):
        self.word = "floor"
        self.field = field
        self.squares = squares_of(field)
        self.spots = {block: spot for spot, block in enumerate(self.squares)}
        self.tiles = tiles_of(field)
        self.bits = {tile: 1 << spot for spot, tile in enumerate(self.tiles)}
        # For each BLOCK the bits of its TILES ahead of being turned on, and behind it.
        self.offs = [self._mask_of(tiles_when(block, False)) for block in self.squares]
        self.ons = [self._mask_of(tiles_when(block, True)) for block in self.squares]
        self.least_mask, _ = self._turned_back(self._mask_of(laying))
        self.least = self._laying_of(self.least_mask)

    def _mask_of(self, tiles):
        return sum([self.bits[tile] for tile in tiles])

    def _laying_of(self, mask):
        # The bits of TILES ascend as these do.
        return tuple([tile for spot, tile in enumerate(self.tiles) if mask >> spot & 1])

    def _turned_back(self, mask):
        """The LEAST SOLUTION's bits, those of any one being told, and the TIMES of all BLOCKS in this."""
        times = [0] * len(self.ons)
        found = True
        while found:
            found = False
            for spot, on in enumerate(self.ons):
                if mask & on == on:
                    mask ^= on | self.offs[spot]
                    times[spot] += 1
                    found = True
        return mask, tuple(times)

    def is_solution(self, value):
        """Whether what plain() told is a SOLUTION."""
        return is_laying_of(self.field, value)

    def is_thing(self, value):
        """Whether what plain() told is a TILE of CELLS of the FIELD."""
        return value in self.tiles

    def counts_at(self, solution):
        """Once each TILE."""
        return {tile: 1 for tile in solution}

    def first_state(self):
        """The state of the LEAST SOLUTION."""
        return self.least_mask, (0,) * len(self.squares)

    def state_of(self, solution):
        """The state of the SOLUTION."""
        mask = self._mask_of(solution)
        return mask, self._turned_back(mask)[1]

    def told(self, state):
        """The SOLUTION with this state."""
        return self._laying_of(state[0])

    def times_of_block(self, solution, block):
        """The TIMES of the BLOCK in the SOLUTION."""
        return self.state_of(solution)[1][self.spots[block]]

    def turns_at(self, state):
        """All TURNS that can be done at the SOLUTION with this state."""
        mask, times = state
        return [
            self.squares[spot] + (times[spot],) for spot, off in enumerate(self.offs)
            if mask & off == off
        ]

    def has_turn(self, state, turn):
        """Whether the TURN can be done at the SOLUTION with this state."""
        mask, times = state
        spot = self.spots[turn[:2]]
        return times[spot] == turn[2] and mask & self.offs[spot] == self.offs[spot]

    def after(self, state, turn):
        """The state of the SOLUTION to which a TURN that can be done leads."""
        mask, times = state
        spot = self.spots[turn[:2]]
        return mask ^ (self.offs[spot] | self.ons[spot]), times[:spot] + (times[spot] + 1,) + times[spot + 1:]

    def has_done(self, state, turn):
        """Whether the TURN is one of those that lead to the SOLUTION with this state."""
        return state[1][self.spots[turn[:2]]] > turn[2]


def squares_of(field):
    """All BLOCKS of the FIELD, ascending."""
    inside = {cell: True for cell in field}
    return tuple([cell for cell in field if all([other in inside for other in square_at(cell)])])


def square_at(block):
    """The four CELLS of the BLOCK, ascending."""
    row, column = block
    return ((row, column), (row, column + 1), (row + 1, column), (row + 1, column + 1))


def lying_tiles(block):
    """The two lying TILES that can have its CELLS."""
    first, second, third, fourth = square_at(block)
    return ((first, second), (third, fourth))


def standing_tiles(block):
    """The two standing TILES that can have its CELLS."""
    first, second, third, fourth = square_at(block)
    return ((first, third), (second, fourth))


def tiles_when(block, on):
    """The two TILES that have its CELLS when it has been turned on, or when it can be."""
    return standing_tiles(block) if is_dark(block) == on else lying_tiles(block)


def way_of_block(laying, block):
    """Whether the BLOCK is lying or standing in the LAYING, None if it is neither."""
    if all([tile in laying for tile in lying_tiles(block)]):
        return "lying"
    if all([tile in laying for tile in standing_tiles(block)]):
        return "standing"
    return None


def block_about(laying, block):
    """The LAYING with the BLOCK turned, on or back; it is lying or standing."""
    old, new = lying_tiles(block), standing_tiles(block)
    if way_of_block(laying, block) == "standing":
        old, new = new, old
    kept = [tile for tile in laying if tile not in old]
    return tuple(sorted(kept + list(new)))


def floor_world(world):
    """The WORLD of a floor that plain() told; BadWorld."""
    if not is_tuple_of(world, 2):
        raise BadWorld("form")
    field = world[1]
    if not is_field(field):
        raise BadWorld("field")
    laying = first_laying(field)
    if laying is None:
        raise BadWorld("none")
    return FloorWorld(field, laying)
