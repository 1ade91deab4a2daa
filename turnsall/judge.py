"""SHEETS: what is said of a TERM, and whether it is so."""

from turnsall.closures import has_bit, mask_of, masks_ahead, size_of
from turnsall.kinds import is_number
from turnsall.readers import nest_alone, readers_of
from turnsall.tallies import Tally
from turnsall.wantedterms import wanted_term

# What stands behind the word of each SAYING.
FORMS = {
    "many": ("number",), "turns": ("number",), "ahead": ("number", "number"), "solution": ("nest",),
    "least": ("nest",), "greatest": ("nest",), "far": ("number", "nest", "nest"),
}


def judged(text):
    """For each SAYING of the SHEET whether it is so; BadText, then BadTerm."""
    readers = readers_of(text)
    nest = nest_alone(readers[0])
    sayings = [_saying_in(reader) for reader in readers[1:]]
    term = wanted_term(nest)
    return tuple([_is_so(term, saying) for saying in sayings])


def _saying_in(reader):
    """The SAYING in the line, as a tuple of its word and of what stands behind it."""
    word = reader.one_of(list(FORMS))
    saying = [word]
    for kind in FORMS[word]:
        saying.append(reader.number() if kind == "number" else reader.nest())
    reader.finish()
    return tuple(saying)


def _is_so(term, saying):
    word = saying[0]
    if word == "many":
        return Tally(term.bare).how_many((1 << term.bare[0]) - 1) == saying[1]
    if word == "turns":
        return term.bare[0] == saying[1]
    if word == "ahead":
        return _is_ahead(term.bare, saying[1], saying[2])
    solutions = saying[2:] if word == "far" else saying[1:]
    if not all([term.is_solution(solution) for solution in solutions]):
        return False
    masks = [mask_of(term.lower_at(solution)) for solution in solutions]
    if word == "least":
        return masks[0] == 0
    if word == "greatest":
        return size_of(masks[0]) == term.bare[0]
    return word == "solution" or size_of(masks[0] ^ masks[1]) == saying[1]


def _is_ahead(order, item, far):
    """Whether both are items, the first one ahead of the second one."""
    last = order[0] - 1
    return is_number(item, 0, last) and is_number(far, 0, last) and has_bit(masks_ahead(order)[far], item)
