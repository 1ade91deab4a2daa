"""Arguments about WORLDS of pairs, of any kind: each is told as a plain one, or refused."""

from turnsall.errors import BadFirst, BadOne, BadPairing, BadRow
from turnsall.kinds import is_number, is_row_of, plain


def wanted_pairing(frame, thing):
    """The PAIRING; BadPairing."""
    pairing = plain(thing)
    if not frame.is_pairing(pairing):
        raise BadPairing(thing)
    return pairing


def wanted_one(frame, thing):
    """The one; BadOne."""
    one = plain(thing)
    if not is_number(one, 0, frame.many - 1):
        raise BadOne(thing)
    return one


def wanted_first(frame, thing):
    """FIRST, a tuple of all ones; BadFirst."""
    first = plain(thing)
    if not is_row_of(first, frame.many):
        raise BadFirst(thing)
    return first


def wanted_row(row, thing):
    """A tuple of the things of the row, each once, in any turn; BadRow."""
    told = plain(thing)
    if not isinstance(told, tuple) or not all([isinstance(other, int) for other in told]):
        raise BadRow(thing)
    if sorted(told) != sorted(row):
        raise BadRow(thing)
    return told
