"""WORLDS of all five words that several tests go through, and how each is tried out."""

import itertools

from helper import (
    floor_oracle, layings_tried, net_oracle, pairs_oracle, plan_oracle, some_fields, some_net, some_pairs, some_plan,
    some_streets, square, streets_oracle, times_tried, turning_pairs,
)
from turnsall.worlds import turns

ORACLES = {
    "pairs": pairs_oracle, "streets": streets_oracle, "plan": plan_oracle, "floor": floor_oracle, "net": net_oracle,
}

PAIRS = [turning_pairs(many) for many in (1, 2, 3, 4, 5)] + [some_pairs(seed, 3 + seed % 3) for seed in range(18)]
PAIRS += [
    # The other ones of four: two rings of two, then two of the other kind.
    ("pairs", ((0, 1, 2, 3), (1, 0, 3, 2), (2, 3, 0, 1), (3, 2, 1, 0)),
     ((3, 2, 1, 0), (2, 3, 0, 1), (1, 0, 3, 2), (0, 1, 2, 3))),
]
STREETS = [some_streets(seed, rows, columns) for seed in range(5)
           for rows, columns in itertools.product((1, 2, 3), repeat=2)]
STREETS += [
    ("streets", 2, 2, (1, 1, 1, 1, 4, 1, 1, 1, 1)), ("streets", 1, 1, (1, 1, 1, 1)),
    ("streets", 3, 3, (1, 1, 2, 1, 1, 2, 2, 1, 1, 2, 2, 2, 1, 2, 2, 1)), ("streets", 2, 2, (1, 1, 1, 2, 2, 2, 1, 1, 1)),
]
PLANS = [
    ("plan", ((0, 2), (0, 2)), ((0, 1, 0),)), ("plan", ((5, 5),), ()), ("plan", ((-1, 2),), ()),
    # Two jobs that go together, one of them also with a third one by a road back.
    ("plan", ((0, 3), (1, 4), (0, 3)), ((0, 1, 1), (0, 2, 2), (1, 0, -1))),
] + [world for world in (some_plan(seed, 1 + seed % 4, 3) for seed in range(60)) if times_tried(*world[1:])]
FLOORS = [("floor", field) for field in some_fields(14, (2, 4, 6, 8, 10, 12)) if layings_tried(field)]
FLOORS += [("floor", square(rows, columns)) for rows, columns in ((1, 2), (2, 2), (2, 3), (2, 6), (3, 4), (4, 4))]
NETS = [some_net(seed, 2 + seed % 6, (0, 20, 40, 60)[seed % 4]) for seed in range(40)] + [
    ("net", 2, ()), ("net", 2, ((0, 1, 0),)), ("net", 2, ((0, 1, 100), (1, 0, 100))), ("net", 5, ()),
    ("net", 5, ((0, 1, 0), (1, 2, 3), (2, 3, 1), (3, 2, 1), (3, 4, 0))),
    ("net", 6, ((0, 1, 1), (0, 2, 1), (1, 3, 1), (2, 4, 1), (3, 5, 1), (4, 5, 1))),
    # The shortest road takes from 1 to 3 more than the greatest FLOW can have there.
    ("net", 8, ((0, 1, 2), (0, 2, 1), (1, 3, 2), (1, 5, 1), (2, 4, 1), (3, 7, 2), (4, 3, 1), (5, 6, 1), (6, 7, 1))),
]


def worlds():
    return PAIRS + STREETS + PLANS + FLOORS + NETS


def small_enough(world):
    """Whether all its SOLUTIONS can be gone through."""
    return len(turns(world)) <= 12
