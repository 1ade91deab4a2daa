"""NESTS as texts, and back."""

from turnsall.errors import BadNest
from turnsall.kinds import plain
from turnsall.nests import words_of
from turnsall.readers import only_nest
from turnsall.wanted import wanted_order
from turnsall.wantedterms import wanted_term


def nest_text(thing):
    """The text of the NEST; BadNest of what is none, or has more words."""
    words = words_of(plain(thing))
    if words is None:
        raise BadNest(thing)
    return " ".join(words)


def read_nest(text):
    """The NEST with the text; BadText."""
    return only_nest(text)


def read_term(text):
    """The TERM with the text; BadText, BadTerm."""
    nest = only_nest(text)
    wanted_term(nest)
    return nest


def read_order(text):
    """The ORDER with the text; BadText, BadOrder."""
    return wanted_order(only_nest(text))
