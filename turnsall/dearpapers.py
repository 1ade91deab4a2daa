"""PAPERS on whether some LOWER is worth as much as told."""

from turnsall.closures import has_bit, lot_of, masks_ahead
from turnsall.dearest import Dearest
from turnsall.errors import BadNumber, BadPaper
from turnsall.kinds import is_ascending, is_number, is_tuple_of, plain, starts_with
from turnsall.wanted import is_plain_lower, wanted_order, wanted_worths


def is_flow(order, worths, value):
    """Whether any value is a FLOW."""
    order = wanted_order(order)
    return _left_by(order, wanted_worths(order, worths), plain(value)) is not None


def dear_paper(order, worths, total):
    """A PAPER on whether some LOWER is worth at least total."""
    order = wanted_order(order)
    dearest = Dearest(masks_ahead(order), wanted_worths(order, worths))
    if dearest.greatest_worth() >= _wanted_total(total):
        return ("dear", lot_of(dearest.least_mask))
    return ("none", dearest.flow)


def check_dear(order, worths, total, paper):
    """The first word of a PAPER that holds; BadPaper of any other value."""
    order = wanted_order(order)
    worths = wanted_worths(order, worths)
    total = _wanted_total(total)
    paper = plain(paper)
    if starts_with(paper, "dear", 2):
        lower = paper[1]
        held = is_plain_lower(order, lower) and sum([worths[item] for item in lower]) >= total
    elif starts_with(paper, "none", 2):
        left = _left_by(order, worths, paper[1])
        held = left is not None and left < total
    else:
        raise BadPaper("form")
    if not held:
        raise BadPaper(paper[0])
    return paper[0]


def _wanted_total(given):
    total = plain(given)
    if not isinstance(total, int):
        raise BadNumber(given)
    return total


def _left_by(order, worths, value):
    """What a FLOW leaves; None of what plain() told and is none."""
    ahead = masks_ahead(order)
    if not isinstance(value, tuple) or not all([_is_triple(ahead, worths, thing) for thing in value]):
        return None
    if not is_ascending([triple[:2] for triple in value]):
        return None
    left = [abs(worth) for worth in worths]
    for item, other, amount in value:
        left[item] -= amount
        left[other] -= amount
    if not all([each >= 0 for each in left]):
        return None
    return sum([each for each, worth in zip(left, worths) if worth > 0])


def _is_triple(ahead, worths, value):
    """Whether it can be one of a FLOW."""
    if not is_tuple_of(value, 3) or not isinstance(value[2], int):
        return False
    item, other, amount = value
    last = len(worths) - 1
    if not is_number(item, 0, last) or not is_number(other, 0, last) or amount < 1:
        return False
    return worths[item] > 0 and worths[other] < 0 and has_bit(ahead[item], other)
