"""WORLDS of streets."""

from turnsall.errors import BadWorld
from turnsall.frames import WorldFrame
from turnsall.kinds import is_number, is_tuple_of
from turnsall.roads import all_lengths
from turnsall.towns import MOST_SIZE, are_outs, are_ways, ends_of, outs_by, sides_of, ways_or_corners


class StreetWorld(WorldFrame):
    """A WORLD of streets: its LEAST SOLUTION, its GROUPS, and what can be done at each SOLUTION.

    The outside has the number behind those of the blocks.
    """

    def __init__(self, rows, columns, outs, ways):
        self.word = "streets"
        self.rows = rows
        self.columns = columns
        self.outs = outs
        self.many = rows * columns
        self.sides = [self._numbered(pair) for pair in sides_of(rows, columns)]
        self.least = self._least_by(ways)
        self.least_hands = self.hands(self.least)
        self.lengths = all_lengths(self.many + 1, steps_by(self.least_hands))
        parts = self._held_together()
        self.groups = tuple([part for part in parts if part[-1] != self.many])
        self.still = [part[:-1] for part in parts if part[-1] == self.many][0]

    def _numbered(self, pair):
        return tuple([self.many if side is None else side for side in pair])

    def hands(self, ways):
        """For each street what is at the right and at the left hand of one who goes along it."""
        return [pair if way == 1 else pair[::-1] for pair, way in zip(self.sides, ways)]

    def _least_by(self, ways):
        """The LEAST SOLUTION, any one being told."""
        hands = self.hands(ways)
        lengths = all_lengths(self.many + 1, steps_by(hands))
        # The blocks can go so far back, each by itself, as the roads from them to the outside are long.
        heights = [0 - lengths[block][self.many] for block in range(self.many + 1)]
        return tuple([
            way if heights[right] == heights[left] else 1 - way
            for way, (right, left) in zip(ways, hands)
        ])

    def is_sure(self, street):
        """Whether the street leads the same way in all SOLUTIONS."""
        right, left = self.least_hands[street]
        return self.lengths[left][right] == 0

    def _held_together(self):
        """All that holds together, as ascending tuples; the outside is in one of them."""
        marks = list(range(self.many + 1))
        for street, (right, left) in enumerate(self.sides):
            if self.is_sure(street):
                old, new = marks[right], marks[left]
                marks = [new if mark == old else mark for mark in marks]
        parts = [[block for block, mark in enumerate(marks) if mark == each] for each in sorted(set(marks))]
        return sorted([tuple(part) for part in parts])

    def is_solution(self, value):
        """Whether what plain() told is a SOLUTION."""
        if not are_ways(value, self.rows, self.columns):
            return False
        return outs_by(self.rows, self.columns, value) == self.outs

    def is_thing(self, value):
        """Whether what plain() told is a street."""
        return is_number(value, 0, len(self.sides) - 1)

    def counts_at(self, solution):
        """Once each street that leads to the right, downwards."""
        return {street: way for street, way in enumerate(solution)}

    def heights_at(self, solution):
        """The HEIGHTS of the SOLUTION."""
        heights = [None] * self.many + [0]
        while None in heights:
            for street, (right, left) in enumerate(self.least_hands):
                more = 0 if solution[street] == self.least[street] else 1
                if heights[right] is None and heights[left] is not None:
                    heights[right] = heights[left] + more
                if heights[left] is None and heights[right] is not None:
                    heights[left] = heights[right] - more
        return tuple(heights[:-1])

    def ways_at(self, heights):
        """The SOLUTION with the HEIGHTS, None if there is none; one integer for each block is told."""
        numbers = heights + (0,)
        ways = []
        for street, (right, left) in enumerate(self.least_hands):
            more = numbers[right] - numbers[left]
            if more not in (0, 1):
                return None
            ways.append(self.least[street] if more == 0 else 1 - self.least[street])
        return tuple(ways)

    def rim_of(self, blocks):
        """The streets at the rim of the blocks, ascending."""
        return tuple([
            street for street, (right, left) in enumerate(self.sides)
            if (right in blocks) != (left in blocks)
        ])

    def have_at_hand(self, solution, blocks, spot):
        """Whether each street at their rim has one of them at the right hand (spot 0), at the left hand (1)."""
        hands = self.hands(solution)
        return all([hands[street][spot] in blocks for street in self.rim_of(blocks)])

    def round_about(self, solution, blocks):
        """The WAYS with the streets at the rim of the blocks led the other way."""
        turned = list(solution)
        for street in self.rim_of(blocks):
            turned[street] = 1 - turned[street]
        return tuple(turned)

    def turns_at(self, solution):
        """All TURNS that can be done at the SOLUTION."""
        heights = self.heights_at(solution)
        return [(group, heights[group[0]]) for group in self.groups if self.have_at_hand(solution, group, 0)]

    def has_turn(self, solution, turn):
        """Whether the TURN can be done at the SOLUTION."""
        return turn in self.turns_at(solution)

    def after(self, solution, turn):
        """The SOLUTION to which a TURN that can be done leads."""
        return self.round_about(solution, turn[0])

    def has_done(self, solution, turn):
        """Whether the TURN is one of those that lead to the SOLUTION."""
        group, height = turn
        return self.heights_at(solution)[group[0]] > height


def steps_by(hands):
    """The steps whose roads tell how much higher one block can be than another one.

    What is at the right hand is as high as what is at the left hand, or 1 higher.
    """
    steps = []
    for right, left in hands:
        steps.append((left, right, 1))
        steps.append((right, left, 0))
    return steps


def street_world(world):
    """The WORLD of streets that plain() told; BadWorld."""
    if not is_tuple_of(world, 4) or not isinstance(world[3], tuple):
        raise BadWorld("streets")
    rows, columns, outs = world[1:]
    if not is_number(rows, 1, MOST_SIZE) or not is_number(columns, 1, MOST_SIZE):
        raise BadWorld("streets")
    if not are_outs(outs, rows, columns):
        raise BadWorld("outs")
    if sum(outs) != len(ends_of(rows, columns)):
        raise BadWorld("none")
    ways = ways_or_corners(rows, columns, outs)[0]
    if ways is None:
        raise BadWorld("none")
    return StreetWorld(rows, columns, outs, ways)
