"""TERMS by trying out, by the words of the document, and some of them to go through."""

import itertools
import random

from helper import ahead_pairs, bare
from turnsall.worlds import all_solutions, lower_of, order_of

PLAN = ("plan", ((0, 2), (0, 2)), ((0, 1, 0),))
SINGLE = ("plan", ((0, 1),), ())
PAIRS = ("pairs", ((0, 1, 2), (1, 2, 0), (2, 0, 1)), ((1, 2, 0), (2, 0, 1), (0, 1, 2)))
TOWN = ("streets", 2, 2, (1, 1, 1, 1, 4, 1, 1, 1, 1))
FLOOR = ("floor", ((0, 0), (0, 1), (0, 2), (1, 0), (1, 1), (1, 2)))
NET = ("net", 5, ((0, 1, 0), (1, 2, 3), (2, 3, 1), (3, 2, 1), (3, 4, 0)))
STILL = ("plan", ((7, 7),), ())
WORLDS = (PLAN, SINGLE, PAIRS, TOWN, FLOOR, NET, STILL)


def tried(term):
    """The pair of how many items and of what is ahead of what, and the dict of the LOWER of each SOLUTION."""
    word = term[0]
    if word == "world":
        order = order_of(term[1])
        return (order[0], ahead_pairs(order)), {solution: lower_of(term[1], solution) for solution in all_solutions(term[1])}
    (many, ahead), solutions = tried(term[1])
    if word == "beside":
        (more, behind), others = tried(term[2])
        both = ahead | {(a + many, b + many) for a, b in behind}
        pairs = itertools.product(solutions, others)
        return (many + more, both), {(s, t): solutions[s] + tuple(item + many for item in others[t]) for s, t in pairs}
    if word == "about":
        turned = {(many - 1 - b, many - 1 - a) for a, b in ahead}
        return (many, turned), {
            solution: tuple(item for item in range(many) if many - 1 - item not in lower) for solution, lower in solutions.items()}
    inside, outside = term[2:]
    fitting = {s: lower for s, lower in solutions.items() if set(inside) <= set(lower) and not set(outside) & set(lower)}
    held = list(fitting.values())
    free = [item for item in range(many) if len({item in lower for lower in held}) == 2]
    pairs = {(free.index(a), free.index(b)) for a, b in ahead if a in free and b in free}
    return (len(free), pairs), {s: tuple(free.index(item) for item in lower if item in free) for s, lower in fitting.items()}


def order_tried(term):
    (many, ahead), _ = tried(term)
    return bare(many, ahead)


def some_term(dice, deep):
    """A TERM of few items; PINS of it do not clash."""
    word = "world" if deep == 0 else dice.choice(("world", "beside", "about", "pinned", "pinned"))
    if word == "world":
        return ("world", dice.choice(WORLDS))
    inner = some_term(dice, deep - 1)
    if word == "about":
        return ("about", inner)
    if word == "beside":
        return ("beside", inner, some_term(dice, deep - 1))
    (many, _), solutions = tried(inner)
    lower = dice.choice(list(solutions.values()))
    inside = tuple(item for item in lower if not dice.randrange(3))
    outside = tuple(item for item in range(many) if item not in lower and not dice.randrange(3))
    return ("pinned", inner, inside, outside)


def terms(count, most=150):
    """TERMS with at most so many SOLUTIONS."""
    dice = random.Random(3)
    found = [("world", world) for world in WORLDS]
    while len(found) < count:
        term = some_term(dice, dice.choice((1, 2, 2, 3)))
        if words_in(term) < 12 and len(tried(term)[1]) <= most and term not in found:
            found.append(term)
    return found


def words_in(term):
    return 1 + sum(words_in(kid) for kid in kids(term))


def deep_in(term):
    return 1 + max((deep_in(kid) for kid in kids(term)), default=0)


def kids(term):
    return term[1:3] if term[0] == "beside" else () if term[0] == "world" else term[1:2]
