"""WORLDS of pairs: PAIRINGS, what breaks them, NEXTS and RINGS."""

from turnsall.kinds import plain
from turnsall.tables import table_of_word
from turnsall.wantedpairs import wanted_one, wanted_pairing


def is_pairing(world, value):
    """Whether any value is a PAIRING."""
    return table_of_word(world, "pairs").frame.is_pairing(plain(value))


def breaking_pairs(world, pairing):
    """All pairs that break the PAIRING, ascending."""
    frame = table_of_word(world, "pairs").frame
    return frame.breaking(wanted_pairing(frame, pairing))


def next_of(world, solution, one):
    """The NEXT of a one at the SOLUTION, None if there is none."""
    table = table_of_word(world, "pairs")
    solution = table.wanted_solution(solution)
    return table.frame.next_other(solution, wanted_one(table.frame, one))


def rings(world, solution):
    """All RINGS at the SOLUTION, ascending."""
    table = table_of_word(world, "pairs")
    return table.frame.rings_at(table.wanted_solution(solution))
