"""WORLDS of pairs: asking in turn, and the pairs that some or all SOLUTIONS have."""

from turnsall.tables import table_of_word
from turnsall.wantedpairs import wanted_first


def asks(world, first):
    """All ASKS, as FIRST tells whose turn it is."""
    frame = table_of_word(world, "pairs").frame
    return frame.asked_by(wanted_first(frame, first))


def possible_pairs(world):
    """The pairs that some SOLUTION has, ascending."""
    table = table_of_word(world, "pairs")
    found = list(enumerate(table.greatest))
    for turn in table.turns:
        found.extend(turn)
    return tuple(sorted(found))


def sure_pairs(world):
    """The pairs that all SOLUTIONS have, ascending."""
    table = table_of_word(world, "pairs")
    return tuple([pair for pair in enumerate(table.frame.least) if pair[1] == table.greatest[pair[0]]])
