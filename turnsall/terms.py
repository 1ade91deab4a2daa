"""TERMS: WORLDS put together by words, with their ORDERS and SOLUTIONS."""

from turnsall.kinds import plain
from turnsall.wanted import wanted_lower
from turnsall.wantedterms import parts_in, wanted_term, wanted_term_solution


def need_term(thing):
    """The TERM itself; BadTerm of what is none."""
    wanted_term(thing)
    return thing


def order_by(term):
    """The ORDER of the TERM."""
    return wanted_term(term).bare


def kids_of(term):
    """The TERMS that stand in the TERM itself, from left to right."""
    wanted_term(term)
    return parts_in(plain(term), "term")


def is_term_solution(term, value):
    """Whether any value is a SOLUTION of the TERM."""
    return wanted_term(term).is_solution(plain(value))


def lower_by(term, solution):
    """The LOWER of the SOLUTION."""
    told = wanted_term(term)
    return told.lower_at(wanted_term_solution(told, solution))


def solution_by(term, lower):
    """The SOLUTION with the LOWER."""
    told = wanted_term(term)
    return told.solution_at(wanted_lower(told.bare, lower))
