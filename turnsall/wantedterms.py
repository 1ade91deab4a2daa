"""TERMS of any kind: each is told by its kind, or refused with the path to what is wrong."""

from turnsall.errors import BadPins, BadSolution, BadTerm, BadWorld, TooMany
from turnsall.kinds import is_ascending, plain
from turnsall.pinsets import wanted_pins
from turnsall.tables import table_of
from turnsall.termkinds import AboutTerm, BesideTerm, PinnedTerm, WorldTerm
from turnsall.wanted import MOST_ITEMS

MOST_WORDS = 12
MOST_DEEP = 6
# What stands behind each word: TERMS first.
PARTS = {
    "world": ("world",), "beside": ("term", "term"), "about": ("term",), "pinned": ("term", "lot", "lot"),
}


class TermWalk:
    """The two walks over what plain() told: the first one looks at the form, the second one comes to the TERM."""

    def __init__(self):
        self.words = 0
        self.tables = {}

    def look_at(self, term, path):
        """The whole, with its WORLD, its IN and OUT, ahead of the TERMS in it, these from left to right; BadTerm."""
        if self.words == MOST_WORDS or len(path) == MOST_DEEP:
            raise BadTerm(())
        self.words += 1
        if not _has_form(term) or not all([_is_some_lot(lot) for lot in parts_in(term, "lot")]):
            raise BadTerm(path)
        for world in parts_in(term, "world"):
            self.tables[path] = _table_for(world, path)
        for spot, kid in enumerate(parts_in(term, "term"), start=1):
            self.look_at(kid, path + (spot,))

    def term_at(self, term, path):
        """What stands in it ahead of the whole; BadTerm of items that are not there, PINS that clash, a great ORDER."""
        word = term[0]
        if word == "world":
            return WorldTerm(self.tables[path])
        inner = self.term_at(term[1], path + (1,))
        if word == "about":
            return AboutTerm(inner)
        if word == "pinned":
            return PinnedTerm(inner, _pins_for(inner, term[2:], path))
        second = self.term_at(term[2], path + (2,))
        if inner.bare[0] + second.bare[0] > MOST_ITEMS:
            raise BadTerm(path)
        return BesideTerm(inner, second)


def _has_form(term):
    """Whether it is a tuple of a word and of as many things as it wants."""
    if not isinstance(term, tuple) or not term or not isinstance(term[0], str):
        return False
    return term[0] in PARTS and len(term) == 1 + len(PARTS[term[0]])


def _is_some_lot(value):
    """Whether it is an ascending tuple of integers from 0 on, be they items or not."""
    if not isinstance(value, tuple) or not all([isinstance(item, int) and item >= 0 for item in value]):
        return False
    return is_ascending(value)


def _table_for(world, path):
    try:
        return table_of(world)
    except (BadWorld, TooMany):
        raise BadTerm(path) from None


def _pins_for(inner, pair, path):
    try:
        return wanted_pins(inner.bare, pair)
    except BadPins:
        raise BadTerm(path) from None


def wanted_term(thing):
    """The TERM by its kind; BadTerm."""
    term = plain(thing)
    walk = TermWalk()
    walk.look_at(term, ())
    return walk.term_at(term, ())


def wanted_term_solution(term, thing):
    """The SOLUTION of a TERM that is told by its kind; BadSolution."""
    solution = plain(thing)
    if not term.is_solution(solution):
        raise BadSolution(thing)
    return solution


def parts_in(term, kind):
    """All of this kind that stands in what plain() told of a TERM, from left to right."""
    return tuple([part for part, each in zip(term[1:], PARTS[term[0]]) if each == kind])
