"""ASK TREES: which items to ask for until one LOWER alone fits."""

from turnsall.closures import has_bit, lot_of, with_all
from turnsall.errors import BadPaper, TooMany
from turnsall.kinds import is_number, plain, starts_with
from turnsall.pinsets import wanted_pins
from turnsall.tallies import Tally
from turnsall.wanted import wanted_order

MOST_OPEN = 8


def best_ask(order, pins):
    """The open item at which the greater COUNT of both PINS is least, of several the least; None if none is open."""
    order = wanted_order(order)
    pin_set = wanted_pins(order, pins)
    tally = Tally(order)
    mask = pin_set.open_mask
    if mask == 0:
        return None
    return min([(_greater_count(tally, mask, item), item) for item in pin_set.open_lot])[1]


def fewest_asks(order, pins):
    """The least depth of an ASK TREE; TooMany(8) of more open items."""
    tally, pin_set = _wanted(order, pins)
    return _depth(tally, pin_set.open_mask, {})


def ask_tree(order, pins):
    """An ASK TREE of the least depth; TooMany(8) of more open items."""
    tally, pin_set = _wanted(order, pins)
    return _tree(tally, pin_set.sure_mask, pin_set.open_mask, {})


def check_asks(order, pins, paper):
    """The depth of an ASK TREE; BadPaper of any other value."""
    order = wanted_order(order)
    pin_set = wanted_pins(order, pins)
    paper = plain(paper)
    if not _has_form(paper):
        raise BadPaper("form")
    return _checked(Tally(order), pin_set.sure_mask, pin_set.open_mask, paper)


def _wanted(order, pins):
    order = wanted_order(order)
    pin_set = wanted_pins(order, pins)
    if len(pin_set.open_lot) > MOST_OPEN:
        raise TooMany(MOST_OPEN)
    return Tally(order), pin_set


def _greater_count(tally, mask, item):
    """The greater COUNT of the open items that are left with the item and without it."""
    return max(tally.how_many(tally.left_with(mask, item)), tally.how_many(tally.left_without(mask, item)))


def _depth(tally, mask, known):
    """The least depth with these open items; known is a dict of what is found, by items."""
    if mask == 0:
        return 0
    if mask not in known:
        known[mask] = 1 + min([_depth_behind(tally, mask, item, known) for item in lot_of(mask)])
    return known[mask]


def _depth_behind(tally, mask, item, known):
    """The least depth of both that stand behind the item."""
    given = _depth(tally, tally.left_with(mask, item), known)
    refused = _depth(tally, tally.left_without(mask, item), known)
    return max(given, refused)


def _tree(tally, sure, mask, known):
    """An ASK TREE of the least depth with these items sure in, and these ones open."""
    if mask == 0:
        return ("is", lot_of(sure))
    item = min([(_depth_behind(tally, mask, each, known), each) for each in lot_of(mask)])[1]
    given = _tree(tally, _sure_with(tally, sure, item), tally.left_with(mask, item), known)
    return ("ask", item, given, _tree(tally, sure, tally.left_without(mask, item), known))


def _sure_with(tally, sure, item):
    return with_all(tally.ahead, sure | 1 << item)


def _has_form(paper):
    """Whether it and all trees within it are tuples of one of the words and as many things as stand there."""
    if starts_with(paper, "is", 2):
        return True
    return starts_with(paper, "ask", 4) and _has_form(paper[2]) and _has_form(paper[3])


def _checked(tally, sure, mask, paper):
    """The depth of a tree of this form, with these items sure in, and these ones open; BadPaper."""
    if paper[0] == "is":
        if mask or paper[1] != lot_of(sure):
            raise BadPaper("is")
        return 0
    item = paper[1]
    if not is_number(item, 0, len(tally.ahead) - 1) or not has_bit(mask, item):
        raise BadPaper("ask")
    given = _checked(tally, _sure_with(tally, sure, item), tally.left_with(mask, item), paper[2])
    refused = _checked(tally, sure, tally.left_without(mask, item), paper[3])
    return 1 + max(given, refused)
