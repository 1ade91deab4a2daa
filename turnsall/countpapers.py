"""COUNT PAPERS: why an ORDER has as many LOWERS as it has."""

from turnsall.closures import has_bit, lot_of, mask_of, masks_ahead, narrowed_by
from turnsall.errors import BadPaper
from turnsall.kinds import is_lot, is_number, plain, starts_with
from turnsall.tallies import Tally
from turnsall.wanted import wanted_order


def count_paper(order):
    """A COUNT PAPER of the ORDER."""
    order = wanted_order(order)
    return _paper_of(Tally(order), (1 << order[0]) - 1, {})


def check_count(order, paper):
    """How many LOWERS the paper shows that the ORDER has; BadPaper of one that does not hold."""
    order = wanted_order(order)
    paper = plain(paper)
    if not _has_form(paper):
        raise BadPaper("form")
    return _shown(masks_ahead(order), paper)


def _paper_of(tally, mask, known):
    """A COUNT PAPER of the ORDER narrowed to these items; known is a dict of those that are found, by items."""
    if mask not in known:
        known[mask] = _new_paper(tally, mask, known)
    return known[mask]


def _new_paper(tally, mask, known):
    lot = lot_of(mask)
    ahead = narrowed_by(tally.ahead, lot)
    if _is_loose(ahead):
        return ("loose",)
    if _is_row(ahead):
        return ("row",)
    parts = _parts_of(tally, mask)
    if len(parts) > 1:
        lots = [tuple([lot.index(item) for item in lot_of(part)]) for part in parts]
        return ("apart", tuple(lots), tuple([_paper_of(tally, part, known) for part in parts]))
    item = tally.busiest(mask)
    given = _paper_of(tally, tally.left_with(mask, item), known)
    refused = _paper_of(tally, tally.left_without(mask, item), known)
    return ("item", lot.index(item), given, refused)


def _parts_of(tally, mask):
    """The items by what has nothing to do with one another; all that are alone are one part, so that it is short."""
    parts = []
    alone = 0
    while mask:
        part = tally.part_of(mask)
        mask &= ~part
        if part & (part - 1):
            parts.append(part)
        else:
            alone |= part
    return parts + [alone] if alone else parts


def _is_loose(ahead):
    """Whether no item is ahead of another one."""
    return not any(ahead)


def _is_row(ahead):
    """Whether of any two items one is ahead of the other one."""
    return all([mask == (1 << item) - 1 for item, mask in enumerate(ahead)])


def _has_form(paper):
    """Whether it and all papers within it are tuples of one of the words and as many things as stand there."""
    if starts_with(paper, "loose", 1) or starts_with(paper, "row", 1):
        return True
    if starts_with(paper, "item", 4):
        return _has_form(paper[2]) and _has_form(paper[3])
    if not starts_with(paper, "apart", 3):
        return False
    lots, papers = paper[1:]
    if not isinstance(lots, tuple) or not isinstance(papers, tuple) or len(lots) != len(papers) or len(lots) < 2:
        return False
    return all([_has_form(each) for each in papers])


def _shown(ahead, paper):
    """What a paper of this form shows; BadPaper."""
    word = paper[0]
    if not _is_as_told(ahead, paper):
        raise BadPaper(word)
    if word == "loose":
        return 1 << len(ahead)
    if word == "row":
        return len(ahead) + 1
    if word == "item":
        given, refused = _lots_behind(ahead, paper[1])
        return _shown(narrowed_by(ahead, given), paper[2]) + _shown(narrowed_by(ahead, refused), paper[3])
    shown = 1
    for lot, each in zip(paper[1], paper[2]):
        shown *= _shown(narrowed_by(ahead, lot), each)
    return shown


def _is_as_told(ahead, paper):
    """Whether the paper itself holds, whatever those within it say."""
    if paper[0] == "loose":
        return _is_loose(ahead)
    if paper[0] == "row":
        return _is_row(ahead)
    if paper[0] == "item":
        return is_number(paper[1], 0, len(ahead) - 1)
    return _are_apart(ahead, paper[1])


def _are_apart(ahead, lots):
    """Whether these are LOTS that have all items, each once, none ahead of one of another LOT."""
    if not all([lot != () and is_lot(lot, len(ahead)) for lot in lots]):
        return False
    if sorted([item for lot in lots for item in lot]) != list(range(len(ahead))):
        return False
    return all([ahead[item] & ~mask_of(lot) == 0 for lot in lots for item in lot])


def _lots_behind(ahead, item):
    """What is left of all items with the item, and without it."""
    others = [other for other in range(len(ahead)) if other != item]
    given = [other for other in others if not has_bit(ahead[item], other)]
    refused = [other for other in others if not has_bit(ahead[other], item)]
    return given, refused
