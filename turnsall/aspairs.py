"""ORDERS as WORLDS of pairs."""

from turnsall.closures import bare_by, masks_ahead
from turnsall.errors import TooMany
from turnsall.tables import table_of
from turnsall.wanted import wanted_order

MOST_EDGES = 12


def edges_of(order):
    """The EDGES of the ORDER."""
    return _edges(wanted_order(order))


def as_pairs(order):
    """The WORLD of pairs of the ORDER; TooMany(12) of more EDGES."""
    order = wanted_order(order)
    return _world(order[0], _few_edges(order))


def turn_items(order):
    """The item of each TURN of the ORDER as pairs; TooMany(12) of more EDGES."""
    order = wanted_order(order)
    edges = _few_edges(order)
    ones = [_ones_of(edges, item) for item in range(order[0])]
    turns = table_of(_world(order[0], edges)).turns
    return tuple([ones.index([one for one, _ in turn]) for turn in turns])


def _edges(order):
    many, pairs = bare_by(masks_ahead(order))
    if many == 0:
        return ((),)
    edges = list(pairs)
    for item in range(many):
        edges.extend([(item,)] * (2 - len(_ones_of(pairs, item))))
    return tuple(edges)


def _few_edges(order):
    edges = _edges(order)
    if len(edges) > MOST_EDGES:
        raise TooMany(MOST_EDGES)
    return edges


def _ones_of(edges, item):
    """The numbers of the EDGES that the item is of, ascending."""
    return [spot for spot, edge in enumerate(edges) if item in edge]


def _world(many, edges):
    """The WORLD of pairs: the ones of an item go on round, item by item."""
    mates = list(range(len(edges)))
    ones = [[other] for other in mates]
    others = [[one] for one in mates]
    for item in range(many):
        ring = _ones_of(edges, item)
        taken = [mates[one] for one in ring[1:] + ring[:1]]
        for one, other in zip(ring, taken):
            mates[one] = other
            ones[one].append(other)
            others[other].append(one)
    return (
        "pairs", tuple([_filled(row, len(edges)) for row in ones]),
        tuple([_filled(row[::-1], len(edges)) for row in others]),
    )


def _filled(row, many):
    """The row, and all the rest behind it, ascending."""
    return tuple(row + [each for each in range(many) if each not in row])
