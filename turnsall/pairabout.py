"""WORLDS of pairs turned about, and with the tops of their tuples turned."""

from turnsall.pairworlds import pairing_turned
from turnsall.tables import table_of_word
from turnsall.wantedpairs import wanted_one, wanted_pairing, wanted_row


def pairs_about(world):
    """The WORLD in which ones and others have changed places."""
    frame = table_of_word(world, "pairs").frame
    return ("pairs", frame.others, frame.ones)


def pairing_about(world, pairing):
    """At each other the one that is together with it."""
    frame = table_of_word(world, "pairs").frame
    return pairing_turned(wanted_pairing(frame, pairing))


def tops_turned(world, one, row):
    """The WORLD in which the one wants the others ahead of its LEAST one in the turn of the row."""
    frame = table_of_word(world, "pairs").frame
    one = wanted_one(frame, one)
    wanted = frame.ones[one]
    spot = wanted.index(frame.least[one])
    top = wanted_row(wanted[:spot], row)
    ones = frame.ones[:one] + (top + wanted[spot:],) + frame.ones[one + 1:]
    return ("pairs", ones, frame.others)
