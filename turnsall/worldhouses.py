"""HOUSES of the ORDERS of WORLDS, which lead from SOLUTION to SOLUTION."""

from turnsall.errors import BadHouse
from turnsall.house import House
from turnsall.pinsets import wanted_pins
from turnsall.tables import table_of

MOST_SOLUTIONS = 400


def house_of(world):
    """A HOUSE of the ORDER of the WORLD."""
    return House(table_of(world).bare_order())


def standing(world, house):
    """The SOLUTION whose LOWER stands."""
    return _wanted_table(world, house).solution_at(house.stands)


def go_to(world, house, solution):
    """The HOUSE goes to the LOWER of the SOLUTION: the LOT of what moves; TooMany(300) if 300 ACTS stand."""
    table = _wanted_table(world, house)
    return house.go(table.lower_at(table.wanted_solution(solution)))


def solutions_left(world, house):
    """All SOLUTIONS whose LOWERS fit the PINS, in the turn of these; TooMany(400) of more."""
    table = _wanted_table(world, house)
    lowers = wanted_pins(house.order, house.pins).fitting(MOST_SOLUTIONS)
    return tuple([table.solution_at(lower) for lower in lowers])


def _wanted_table(world, house):
    """The table of the WORLD; BadHouse of what is no HOUSE of its ORDER."""
    table = table_of(world)
    if not isinstance(house, House) or house.order != table.bare_order():
        raise BadHouse(house)
    return table
