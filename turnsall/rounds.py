"""ROUNDS that lead from LOWER to LOWER, and CHAINS that tell how many are needed."""

from turnsall.closures import (
    can_be_put, can_be_taken, has_bit, is_within, lot_of, mask_of, masks_ahead,
)
from turnsall.errors import BadNumber, BadPaper
from turnsall.kinds import is_lot, is_number, plain, starts_with
from turnsall.wanted import wanted_lower, wanted_order

MOST_ROUNDS = 20


def is_round(order, lower, value):
    """Whether any value is a ROUND at the LOWER."""
    order = wanted_order(order)
    lower = wanted_lower(order, lower)
    return _is_round(masks_ahead(order), lower, plain(value))


def fewest_rounds(order, lower, other_lower):
    """How many ROUNDS lead from lower to other_lower at the least."""
    order = wanted_order(order)
    lower = wanted_lower(order, lower)
    other_lower = wanted_lower(order, other_lower)
    return len(_longest_chain(masks_ahead(order), lower, other_lower))


def rounds_paper(order, lower, other_lower, most):
    """A PAPER on whether most ROUNDS are enough."""
    order = wanted_order(order)
    lower = wanted_lower(order, lower)
    other_lower = wanted_lower(order, other_lower)
    most = _wanted_most(most)
    ahead = masks_ahead(order)
    chain = _longest_chain(ahead, lower, other_lower)
    if len(chain) > most:
        return ("chain", chain)
    return ("rounds", _greatest_rounds(ahead, lower, other_lower))


def check_rounds(order, lower, other_lower, most, paper):
    """The first word of a PAPER that holds; BadPaper of any other value."""
    order = wanted_order(order)
    lower = wanted_lower(order, lower)
    other_lower = wanted_lower(order, other_lower)
    most = _wanted_most(most)
    paper = plain(paper)
    if starts_with(paper, "rounds", 2):
        held = _do_lead(masks_ahead(order), lower, other_lower, most, paper[1])
    elif starts_with(paper, "chain", 2):
        held = _does_show(masks_ahead(order), lower, other_lower, most, paper[1])
    else:
        raise BadPaper("form")
    if not held:
        raise BadPaper(paper[0])
    return paper[0]


def _wanted_most(given):
    most = plain(given)
    if not is_number(most, 0, MOST_ROUNDS):
        raise BadNumber(given)
    return most


def _can_change(ahead, lower):
    return can_be_put(ahead, lower) + can_be_taken(ahead, lower)


def _is_round(ahead, lower, value):
    if value == () or not is_lot(value, len(ahead)):
        return False
    mask = mask_of(value)
    if not is_within(mask, mask_of(_can_change(ahead, lower))):
        return False
    return all([ahead[item] & mask == 0 for item in value])


def _changed(lower, lot):
    """The LOWER to which a ROUND leads."""
    return lot_of(mask_of(lower) ^ mask_of(lot))


def _greatest_rounds(ahead, lower, goal):
    """ROUNDS from one LOWER to the other one, each with all that can change."""
    told = []
    while lower != goal:
        # Of what is to go and what is to come nothing is ahead of another thing, so it is a ROUND.
        apart = mask_of(lower) ^ mask_of(goal)
        lot = lot_of(apart & mask_of(_can_change(ahead, lower)))
        told.append(lot)
        lower = _changed(lower, lot)
    return tuple(told)


def _do_lead(ahead, lower, goal, most, value):
    """Whether these are at most so many ROUNDS from the one LOWER to the other one."""
    if not isinstance(value, tuple) or len(value) > most:
        return False
    for lot in value:
        if not _is_round(ahead, lower, lot):
            return False
        lower = _changed(lower, lot)
    return lower == goal


def _alone(lower, other_lower):
    """The items that are in the one LOWER alone, and in the other one alone, as bits."""
    mask = mask_of(lower)
    other = mask_of(other_lower)
    return [mask & ~other, other & ~mask]


def _longest_chain(ahead, lower, other_lower):
    """The longest CHAIN of items of one of both LOWERS alone, () if they are the same."""
    chains = [_chain_in(ahead, mask) for mask in _alone(lower, other_lower)]
    return max(chains, key=len)


def _chain_in(ahead, mask):
    """The longest CHAIN of these items, () if there is none."""
    chains = {}
    for item in lot_of(mask):
        # What is ahead of an item is less than it, so the longest CHAIN to it is there by then.
        below = [chains[other] for other in lot_of(ahead[item] & mask)]
        chains[item] = max(below, key=len, default=()) + (item,)
    return max(list(chains.values()), key=len, default=())


def _does_show(ahead, lower, other_lower, most, value):
    """Whether this is a CHAIN of more items, all of them in one of both LOWERS alone."""
    if not is_lot(value, len(ahead)) or len(value) <= most:
        return False
    if not all([has_bit(ahead[far], item) for item, far in zip(value, value[1:])]):
        return False
    return any([is_within(mask_of(value), mask) for mask in _alone(lower, other_lower)])
