"""MAPS of ORDERS to numbers, how many there are, FALLS and the LINE."""

from math import comb, factorial

from turnsall.closures import can_be_taken, lowers_of, masks_ahead
from turnsall.errors import BadNumber
from turnsall.kinds import is_number, is_tuple_of, plain
from turnsall.ratios import ratio
from turnsall.wanted import wanted_order

MOST_LOWERS = 400
MOST_NUMBER = 20


def is_map(order, number, value):
    """Whether any value is a MAP to the number."""
    order, number = _wanted(order, number)
    return _climbs(order, number, plain(value), 0)


def is_strict(order, number, value):
    """Whether any value is a strict MAP to the number."""
    order, number = _wanted(order, number)
    return _climbs(order, number, plain(value), 1)


def map_count(order, number):
    """How many MAPS to the number there are; TooMany(400) of an ORDER with more LOWERS."""
    order, number = _wanted(order, number)
    counts = _falls_of(order)
    many = order[0]
    # Then there is one MAP to 0, too.
    if many == 0:
        return 1
    return sum([count * comb(number + many - 1 - fall, many) for fall, count in enumerate(counts)])


def strict_count(order, number):
    """How many strict MAPS to the number there are; TooMany(400) of an ORDER with more LOWERS."""
    order, number = _wanted(order, number)
    return sum([count * comb(number + fall, order[0]) for fall, count in enumerate(_falls_of(order))])


def falls(order):
    """How many rows of all items have 0 falls, 1 fall, and so on; TooMany(400) of an ORDER with more LOWERS."""
    return _falls_of(wanted_order(order))


def line(order):
    """The FRACTIONS by which each number comes to its MAPS; TooMany(400) of an ORDER with more LOWERS."""
    order = wanted_order(order)
    many = order[0]
    total = [0] * (many + 1)
    for fall, count in enumerate(_falls_of(order)):
        # C(K + many - 1 - fall, many), times all integers from 1 to many, is this product.
        powers = [count]
        for more in range(0 - fall, many - fall):
            powers = _times_sum(powers, more)
        total = [first + second for first, second in zip(total, powers)]
    return tuple([ratio(amount, factorial(many)) for amount in total])


def _wanted(order, given):
    order = wanted_order(order)
    number = plain(given)
    if not is_number(number, 0, MOST_NUMBER):
        raise BadNumber(given)
    return order, number


def _climbs(order, number, value, least):
    """Whether it has a number for each item, greater by least or more than those of all that are ahead."""
    if not is_tuple_of(value, order[0]) or not all([is_number(each, 0, number - 1) for each in value]):
        return False
    return all([value[far] - value[item] >= least for item, far in order[1]])


def _falls_of(order):
    ahead = masks_ahead(order)
    # For each LOWER, by the last item of its rows, how many of these have 0 falls, 1 fall, and so on.
    known = {}
    for lower in sorted(lowers_of(order, MOST_LOWERS), key=len):
        known[lower] = {item: _falls_with_last(known, lower, item) for item in can_be_taken(ahead, lower)}
    whole = tuple(range(order[0]))
    if whole == ():
        return (1,)
    return _summed(list(known[whole].values()), len(whole))


def _falls_with_last(known, lower, item):
    """For the rows of the LOWER with the item last: how many have 0 falls, 1 fall, and so on."""
    rest = tuple([other for other in lower if other != item])
    if rest == ():
        return (1,)
    return _summed([(0,) + counts if last > item else counts for last, counts in known[rest].items()], len(lower))


def _summed(rows, many):
    """The sums of so many places of the rows, those that lack counting nothing."""
    total = [0] * many
    for counts in rows:
        for spot, count in enumerate(counts):
            total[spot] += count
    return tuple(total)


def _times_sum(powers, more):
    """What the product of the sum over powers of K with K + more is, in powers of K."""
    raised = [0] + powers
    return [first + more * second for first, second in zip(raised, powers + [0])]
