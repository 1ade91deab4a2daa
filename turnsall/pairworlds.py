"""WORLDS of pairs."""

from turnsall.errors import BadWorld
from turnsall.frames import WorldFrame
from turnsall.kinds import is_number, is_row_of, is_tuple_of

MOST_ONES = 12


class PairWorld(WorldFrame):
    """A WORLD of pairs: its LEAST SOLUTION, and what can be done at each SOLUTION."""

    def __init__(self, ones, others):
        self.word = "pairs"
        self.many = len(ones)
        self.ones = ones
        self.others = others
        self.ranks = ranks_of(ones)
        self.other_ranks = ranks_of(others)
        self.least = self._asked_least()

    def _asked_least(self):
        found = [None] * self.many
        # With the other that it asks last each one stays together.
        for one, other, _ in self.asked_by(tuple(range(self.many))):
            found[one] = other
        return tuple(found)

    def asked_by(self, first):
        """All ASKS, as FIRST tells whose turn it is."""
        asks = []
        mates = [None] * self.many
        asked = [0] * self.many
        alone = list(first)
        while alone:
            one = alone[0]
            other = self.ones[one][asked[one]]
            asked[one] += 1
            rival = mates[other]
            taken = rival is None or self.wants(other, one, rival)
            asks.append((one, other, taken))
            if taken:
                mates[other] = one
                alone = [each for each in first if each not in mates]
        return tuple(asks)

    def wants(self, other, one, rival):
        """Whether the other wants the one more than the rival."""
        return self.other_ranks[other][one] < self.other_ranks[other][rival]

    def is_pairing(self, value):
        """Whether what plain() told is a PAIRING."""
        return is_row_of(value, self.many)

    def breaking(self, pairing):
        """All pairs that break the PAIRING, ascending."""
        mates = pairing_turned(pairing)
        found = []
        for one, other in enumerate(pairing):
            # Those whom the one wants more than its own other.
            for better in sorted(self.ones[one][:self.ranks[one][other]]):
                if self.wants(better, one, mates[better]):
                    found.append((one, better))
        return tuple(found)

    def is_solution(self, value):
        """Whether what plain() told is a SOLUTION."""
        return self.is_pairing(value) and not self.breaking(value)

    def is_thing(self, value):
        """Whether what plain() told is a pair of a one and an other."""
        return is_tuple_of(value, 2) and all([is_number(each, 0, self.many - 1) for each in value])

    def counts_at(self, solution):
        """Once each pair that is together."""
        return {pair: 1 for pair in enumerate(solution)}

    def next_other(self, solution, one):
        """The NEXT of the one, None if there is none."""
        mates = pairing_turned(solution)
        for other in self.ones[one][self.ranks[one][solution[one]] + 1:]:
            if self.wants(other, one, mates[other]):
                return other
        return None

    def rings_at(self, solution):
        """All RINGS at the SOLUTION, ascending."""
        mates = pairing_turned(solution)
        nexts = [self.next_other(solution, one) for one in range(self.many)]
        leads_to = [None if other is None else mates[other] for other in nexts]
        found = []
        for one in range(self.many):
            ring = _ring_from(leads_to, one)
            if ring is not None and min(ring) == one:
                found.append(ring)
        return tuple(found)

    def turns_at(self, solution):
        """All TURNS that can be done at the SOLUTION."""
        return [tuple([(one, solution[one]) for one in sorted(ring)]) for ring in self.rings_at(solution)]

    def has_turn(self, solution, turn):
        """Whether the TURN can be done at the SOLUTION."""
        return turn in self.turns_at(solution)

    def after(self, solution, turn):
        """The SOLUTION to which a TURN that can be done leads."""
        changed = list(solution)
        for one, _ in turn:
            changed[one] = self.next_other(solution, one)
        return tuple(changed)

    def has_done(self, solution, turn):
        """Whether the TURN is one of those that lead to the SOLUTION."""
        one, other = turn[0]
        return self.ranks[one][solution[one]] > self.ranks[one][other]


def _ring_from(leads_to, start):
    """The ring that leads from start back to it, None if there is none."""
    ring = [start]
    spot = leads_to[start]
    while spot is not None and spot not in ring:
        ring.append(spot)
        spot = leads_to[spot]
    return tuple(ring) if spot == start else None


def ranks_of(rows):
    """For each row how many stand ahead of each in it."""
    ranks = []
    for row in rows:
        spots = [0] * len(row)
        for spot, wanted in enumerate(row):
            spots[wanted] = spot
        ranks.append(spots)
    return ranks


def pairing_turned(pairing):
    """At each other the one that is together with it."""
    mates = [0] * len(pairing)
    for one, other in enumerate(pairing):
        mates[other] = one
    return tuple(mates)


def pair_world(world):
    """The WORLD of pairs that plain() told; BadWorld."""
    if not is_tuple_of(world, 3) or not isinstance(world[1], tuple) or not isinstance(world[2], tuple):
        raise BadWorld("pairs")
    ones, others = world[1:]
    if len(ones) != len(others) or not is_number(len(ones), 1, MOST_ONES):
        raise BadWorld("many")
    if not _are_rows(ones):
        raise BadWorld("ones")
    if not _are_rows(others):
        raise BadWorld("others")
    return PairWorld(ones, others)


def _are_rows(rows):
    return all([is_row_of(row, len(rows)) for row in rows])
