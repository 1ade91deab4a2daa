"""TERMS of each word, all with the same methods: their ORDERS, and their SOLUTIONS by LOWERS."""

from turnsall.closures import has_bit, mask_of
from turnsall.kinds import is_tuple_of
from turnsall.sums import about, beside, narrowed


class WorldTerm:
    """A WORLD by itself."""

    def __init__(self, table):
        self.table = table
        self.bare = table.bare_order()

    def is_solution(self, value):
        """Whether what plain() told is a SOLUTION."""
        return self.table.frame.is_solution(value)

    def lower_at(self, solution):
        """The LOWER of the SOLUTION."""
        return self.table.lower_at(solution)

    def solution_at(self, lower):
        """The SOLUTION with the LOWER."""
        return self.table.solution_at(lower)


class BesideTerm:
    """A TERM beside another one; both have at most 20 items together."""

    def __init__(self, first, second):
        self.first = first
        self.second = second
        self.many = first.bare[0]
        self.bare = beside(first.bare, second.bare)

    def is_solution(self, value):
        """Whether what plain() told is a pair of SOLUTIONS."""
        return is_tuple_of(value, 2) and self.first.is_solution(value[0]) and self.second.is_solution(value[1])

    def lower_at(self, solution):
        """The LOWER of the first one, with that of the second one behind it."""
        low = self.first.lower_at(solution[0])
        return low + tuple([item + self.many for item in self.second.lower_at(solution[1])])

    def solution_at(self, lower):
        """The pair of the SOLUTIONS with both parts of the LOWER."""
        low = tuple([item for item in lower if item < self.many])
        high = tuple([item - self.many for item in lower if item >= self.many])
        return (self.first.solution_at(low), self.second.solution_at(high))


class AboutTerm:
    """A TERM turned about."""

    def __init__(self, inner):
        self.inner = inner
        self.bare = about(inner.bare)

    def is_solution(self, value):
        """Whether what plain() told is a SOLUTION."""
        return self.inner.is_solution(value)

    def lower_at(self, solution):
        """The items that stand for those that the LOWER has not."""
        return self._other_side(self.inner.lower_at(solution))

    def solution_at(self, lower):
        """The SOLUTION with the LOWER."""
        return self.inner.solution_at(self._other_side(lower))

    def _other_side(self, lower):
        many = self.bare[0]
        return tuple([item for item in range(many) if many - 1 - item not in lower])


class PinnedTerm:
    """A TERM with PINS that do not clash."""

    def __init__(self, inner, pin_set):
        self.inner = inner
        self.pin_set = pin_set
        self.bare = narrowed(inner.bare, pin_set.open_lot)

    def is_solution(self, value):
        """Whether what plain() told is a SOLUTION whose LOWER fits."""
        if not self.inner.is_solution(value):
            return False
        mask = mask_of(self.inner.lower_at(value))
        return self.pin_set.nearest_mask(mask) == mask

    def lower_at(self, solution):
        """The open items of the LOWER, by their new numbers."""
        mask = mask_of(self.inner.lower_at(solution))
        return tuple([spot for spot, item in enumerate(self.pin_set.open_lot) if has_bit(mask, item)])

    def solution_at(self, lower):
        """The SOLUTION with the LOWER."""
        return self.inner.solution_at(self.pin_set.lower_with(lower))
