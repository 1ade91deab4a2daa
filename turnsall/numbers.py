"""The numbers of LOWERS and of SOLUTIONS, as LOWERS ascend."""

from turnsall.closures import is_within, mask_of
from turnsall.errors import BadNumber
from turnsall.kinds import is_number, plain
from turnsall.tables import table_of
from turnsall.tallies import Tally
from turnsall.wanted import wanted_lower, wanted_order


def number_of(order, lower):
    """The number of the LOWER."""
    order = wanted_order(order)
    return _number(order, wanted_lower(order, lower))


def lower_at(order, number):
    """The LOWER with the number; BadNumber of what is none."""
    return _lower(wanted_order(order), number)


def solution_number(world, solution):
    """The number of the SOLUTION."""
    table = table_of(world)
    solution = table.wanted_solution(solution)
    return _number(table.bare_order(), table.lower_at(solution))


def solution_at(world, number):
    """The SOLUTION with the number; BadNumber of what is none."""
    table = table_of(world)
    return table.solution_at(_lower(table.bare_order(), number))


def solution_count(world):
    """How many SOLUTIONS there are."""
    order = table_of(world).bare_order()
    return Tally(order).how_many(_all_items(order))


def _all_items(order):
    return (1 << order[0]) - 1


def _number(order, lower):
    tally = Tally(order)
    number = 0
    begun = ()
    for item in lower:
        # The one that ends here comes first, then those that go on with a lesser item.
        number += 1 + sum([many for other, many in _ways_on(tally, begun) if other < item])
        begun += (item,)
    return number


def _lower(order, given):
    tally = Tally(order)
    left = plain(given)
    if not is_number(left, 0, tally.how_many(_all_items(order)) - 1):
        raise BadNumber(given)
    begun = ()
    while left > 0:
        left -= 1
        begun, left = _step_on(tally, begun, left)
    return begun


def _step_on(tally, begun, left):
    """The beginning of the LOWER that is longer by an item, and its number among all that begin so."""
    for item, many in _ways_on(tally, begun):
        if left < many:
            return begun + (item,), left
        left -= many
    return None


def _ways_on(tally, begun):
    """The items that can come next, ascending, each with how many LOWERS begin so."""
    mask = mask_of(begun)
    first = begun[-1] + 1 if begun else 0
    ways = []
    for item in range(first, len(tally.ahead)):
        if is_within(tally.ahead[item], mask):
            ways.append((item, tally.how_many(_open_behind(tally, mask | 1 << item, item))))
    return ways


def _open_behind(tally, mask, last):
    """The items beyond the last one that can be in a LOWER that has just these up to it."""
    told = (2 << last) - 1
    return mask_of([
        item for item in range(last + 1, len(tally.ahead)) if is_within(tally.ahead[item] & told, mask)
    ])
