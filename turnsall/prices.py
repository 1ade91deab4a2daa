"""WEIGHTS of WORLDS, the PRICES of SOLUTIONS and TURNS, and what is dearest and cheapest by them."""

from turnsall.closures import lot_of, masks_ahead
from turnsall.dearest import Dearest
from turnsall.errors import BadWeights
from turnsall.kinds import is_ascending, is_number, is_tuple_of, plain
from turnsall.tables import table_of

MOST_WEIGHTS = 40
MOST_AMOUNT = 40


def need_weights(world, thing):
    """The WEIGHTS themselves; BadWeights of what is none."""
    _wanted_weights(table_of(world), thing)
    return thing


def price_of(world, weights, solution):
    """The PRICE of the SOLUTION."""
    table = table_of(world)
    weights = _wanted_weights(table, weights)
    return _price(table, weights, table.wanted_solution(solution))


def turn_prices(world, weights):
    """The pair of the PRICE of the LEAST SOLUTION, and the tuple of those of all TURNS."""
    table = table_of(world)
    weights = _wanted_weights(table, weights)
    return (_price(table, weights, table.frame.least), _prices(table, weights))


def dearest_solution(world, weights):
    """The SOLUTION with the greatest PRICE, of several the one whose LOWER is within all others."""
    table = table_of(world)
    return _dearest(table, _prices(table, _wanted_weights(table, weights)))


def cheapest_solution(world, weights):
    """The SOLUTION with the least PRICE, of several the one whose LOWER is within all others."""
    table = table_of(world)
    return _dearest(table, [0 - price for price in _prices(table, _wanted_weights(table, weights))])


def _wanted_weights(table, given):
    weights = plain(given)
    if not isinstance(weights, tuple) or len(weights) > MOST_WEIGHTS:
        raise BadWeights(given)
    if not all([_is_weight(table, weight) for weight in weights]):
        raise BadWeights(given)
    # THINGS of one WORLD are of one kind; no pair is ahead of another one by its AMOUNT, as no THING comes twice.
    if not is_ascending([thing for thing, _ in weights]):
        raise BadWeights(given)
    return weights


def _is_weight(table, value):
    if not is_tuple_of(value, 2) or not is_number(value[1], 0 - MOST_AMOUNT, MOST_AMOUNT):
        return False
    return table.frame.is_thing(value[0])


def _price(table, weights, solution):
    counts = table.frame.counts_at(solution)
    return sum([amount * counts.get(thing, 0) for thing, amount in weights])


def _prices(table, weights):
    """The PRICES of all TURNS."""
    prices = [_price(table, weights, solution) for solution in table.all_done()]
    return tuple([later - price for price, later in zip(prices, prices[1:])])


def _dearest(table, prices):
    """The SOLUTION that is dearest by what the TURNS are worth, with as few of them as can be."""
    return table.solution_at(lot_of(Dearest(masks_ahead(table.bare_order()), prices).least_mask))
