"""Values of every kind, copied as plain ones, and what is asked of them."""

MOST_THINGS = 200000
MOST_DEEP = 100
# What stands for a value that nothing in this program may be: no integer, tuple or None, and no word.
ALIEN = ""


def plain(value):
    """The value out of plain integers, strings, tuples and None; True, False and other kinds become ALIEN."""
    return _copied(value, [MOST_THINGS], MOST_DEEP)


def _copied(value, budget, deep):
    # Most things are integers, so these are looked for first.
    if isinstance(value, int):
        return ALIEN if isinstance(value, bool) else int(value)
    if isinstance(value, tuple):
        # One tuple that stands in many places could grow beyond all bounds, so the things are counted.
        budget[0] -= len(value)
        if deep == 0 or budget[0] < 0:
            return ALIEN
        return tuple([_copied(thing, budget, deep - 1) for thing in value])
    if isinstance(value, str):
        return "".join([value])
    return None if value is None else ALIEN


# The functions below are for values that plain() told: there True and False are no more.


def is_number(value, low, high):
    """Whether it is an integer from low to high."""
    return isinstance(value, int) and low <= value <= high


def is_tuple_of(value, many):
    """Whether it is a tuple of so many things."""
    return isinstance(value, tuple) and len(value) == many


def is_ascending(things):
    """Whether each is greater than the one ahead; they are of one kind."""
    return all([first < second for first, second in zip(things, things[1:])])


def is_lot(value, many):
    """Whether it is an ascending tuple of the integers from 0 to many - 1, perhaps of some of them."""
    if not isinstance(value, tuple):
        return False
    return all([is_number(thing, 0, many - 1) for thing in value]) and is_ascending(value)


def is_row_of(value, many):
    """Whether it is a tuple of the integers from 0 to many - 1, each once."""
    if not is_tuple_of(value, many):
        return False
    if not all([is_number(thing, 0, many - 1) for thing in value]):
        return False
    return sorted(value) == list(range(many))


def starts_with(value, word, many):
    """Whether it is a tuple of so many things, one at least, with this word first."""
    return is_tuple_of(value, many) and value[0] == word
