"""WORLDS that are turned alike, and PAPERS on whether two of them are."""

from turnsall.closures import has_bit, masks_ahead, size_of
from turnsall.errors import BadPaper, NotAlike, TooMany
from turnsall.kinds import is_row_of, plain, starts_with
from turnsall.likeness import MOST_ALIKE, leads
from turnsall.tables import table_of


def are_turned_alike(world, other_world):
    """Whether the ORDERS of both WORLDS are alike; TooMany(7) of more TURNS."""
    order, other = _few_turns(table_of(world), table_of(other_world))
    return leads(order, other) is not None


def led_over(world, other_world, solution):
    """The SOLUTION of the other WORLD that does what this one does; TooMany(7), NotAlike."""
    table = table_of(world)
    other = table_of(other_world)
    lower = table.lower_at(table.wanted_solution(solution))
    order, other_order = _few_turns(table, other)
    found = leads(order, other_order)
    if found is None:
        raise NotAlike((world, other_world))
    return other.solution_at(tuple(sorted([found[number] for number in lower])))


def alike_paper(world, other_world):
    """A PAPER on whether both WORLDS are turned alike; TooMany(7) of more TURNS."""
    order, other = _few_turns(table_of(world), table_of(other_world))
    found = leads(order, other)
    if found is not None:
        return ("alike", found)
    if order[0] != other[0]:
        return ("many",)
    unlike = _unlike_numbers(order, other)
    return ("unlike", unlike[0]) if unlike else ("apart",)


def check_alike(world, other_world, paper):
    """The first word of a PAPER that holds; TooMany(7) of more TURNS, BadPaper of any other value."""
    order, other = _few_turns(table_of(world), table_of(other_world))
    paper = plain(paper)
    if starts_with(paper, "alike", 2):
        held = _do_lead(order, other, paper[1])
    elif starts_with(paper, "many", 1):
        held = order[0] != other[0]
    elif starts_with(paper, "unlike", 2):
        held = isinstance(paper[1], int) and paper[1] in _unlike_numbers(order, other)
    elif starts_with(paper, "apart", 1):
        held = leads(order, other) is None and not _unlike_numbers(order, other)
    else:
        raise BadPaper("form")
    if not held:
        raise BadPaper(paper[0])
    return paper[0]


def _few_turns(table, other):
    """The ORDERS of both."""
    if max(len(table.turns), len(other.turns)) > MOST_ALIKE:
        raise TooMany(MOST_ALIKE)
    return table.bare_order(), other.bare_order()


def _do_lead(order, other, value):
    """Whether these are LEADS from the one to the other."""
    many = order[0]
    if other[0] != many or not is_row_of(value, many):
        return False
    ahead = masks_ahead(order)
    other_ahead = masks_ahead(other)
    return all([
        has_bit(ahead[far], item) == has_bit(other_ahead[value[far]], value[item])
        for item in range(many) for far in range(many)
    ])


def _unlike_numbers(order, other):
    """All numbers K such that unlike numbers of items have just K ahead of them, ascending."""
    many = [size_of(mask) for mask in masks_ahead(order)]
    others = [size_of(mask) for mask in masks_ahead(other)]
    return [number for number in sorted(set(many + others)) if many.count(number) != others.count(number)]
