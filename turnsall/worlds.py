"""WORLDS of all five words: their SOLUTIONS, their TURNS and their ORDERS."""

from turnsall.closures import lowers_of
from turnsall.errors import BadTurn
from turnsall.kinds import plain
from turnsall.tables import table_of
from turnsall.wanted import wanted_lower

MOST_SOLUTIONS = 400


def need_world(thing):
    """The WORLD itself; BadWorld of what is none, TooMany(20) of more TURNS."""
    table_of(thing)
    return thing


def is_solution(world, value):
    """Whether any value is a SOLUTION."""
    return table_of(world).frame.is_solution(plain(value))


def least_solution(world):
    """The SOLUTION to which no TURN leads."""
    return table_of(world).frame.least


def greatest_solution(world):
    """The SOLUTION at which no TURN can be done."""
    return table_of(world).greatest


def turns(world):
    """All TURNS, by their numbers."""
    return tuple(table_of(world).turns)


def order_of(world):
    """The ORDER of the numbers of the TURNS."""
    return table_of(world).bare_order()


def lower_of(world, solution):
    """The numbers of the TURNS that lead to the SOLUTION."""
    table = table_of(world)
    return table.lower_at(table.wanted_solution(solution))


def solution_of(world, lower):
    """The SOLUTION with the LOWER."""
    table = table_of(world)
    return table.solution_at(wanted_lower(table.bare_order(), lower))


def can_turn(world, solution):
    """The numbers of the TURNS that can be done at the SOLUTION."""
    table = table_of(world)
    return table.ready_at(table.wanted_solution(solution))


def turned(world, solution, number):
    """The SOLUTION to which the TURN leads; BadTurn of one that cannot be done."""
    table = table_of(world)
    solution = table.wanted_solution(solution)
    plain_number = table.wanted_turn(number)
    if plain_number not in table.ready_at(solution):
        raise BadTurn(number)
    return table.turned_at(solution, plain_number)


def all_solutions(world):
    """All SOLUTIONS, in the turn of their LOWERS; TooMany(400) of more."""
    table = table_of(world)
    lowers = lowers_of(table.bare_order(), MOST_SOLUTIONS)
    return tuple([table.solution_at(lower) for lower in lowers])
