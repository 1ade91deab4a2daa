"""What is dearest of an ORDER by WORTHS, found by a FLOW that leaves as little as can be."""

from turnsall.closures import has_bit, lot_of, mask_of, with_all
from turnsall.netflows import greatest_flow


class Dearest:
    """The FLOW, and what it leads to: a LOWER is dearest exactly if it has with each item all to which this leads,
    has all items above 0 that the FLOW does not use up, and none below 0 of which that is so.
    """

    def __init__(self, ahead, worths):
        self.worths = worths
        self.flow = _least_left(ahead, worths)
        self.leads = _closed_leads(ahead, self.flow)
        used = _used_up(worths, self.flow)
        self.least_mask = 0
        for item, worth in enumerate(worths):
            if worth > used[item]:
                self.least_mask |= self.leads[item]
        missed = mask_of([item for item, worth in enumerate(worths) if worth < 0 - used[item]])
        self.greatest_mask = mask_of([item for item in range(len(worths)) if self.leads[item] & missed == 0])

    def worth_of_mask(self, mask):
        """How much the items of the bits are worth together."""
        return sum([worth for item, worth in enumerate(self.worths) if has_bit(mask, item)])

    def greatest_worth(self):
        """How much a dearest LOWER is worth."""
        return self.worth_of_mask(self.least_mask)


def _least_left(ahead, worths):
    """A FLOW that leaves as little as can be."""
    last = len(worths) + 1
    pipes = []
    for item, worth in enumerate(worths):
        if worth > 0:
            pipes.append((0, item + 1, worth))
            pipes.extend([(item + 1, other + 1, worth) for other in lot_of(ahead[item]) if worths[other] < 0])
        if worth < 0:
            pipes.append((item + 1, last, 0 - worth))
    amounts = greatest_flow(last + 1, pipes)
    triples = [
        (start - 1, goal - 1, amount) for (start, goal, _), amount in zip(pipes, amounts)
        if amount > 0 and start > 0 and goal < last
    ]
    return tuple(sorted(triples))


def _used_up(worths, flow):
    """For each item the AMOUNTS of all triples in which it stands, together."""
    used = [0] * len(worths)
    for item, other, amount in flow:
        used[item] += amount
        used[other] += amount
    return used


def _closed_leads(ahead, flow):
    """For each item the bits of it and of all that each dearest LOWER that has it has, too, by this FLOW."""
    leads = [mask | (1 << item) for item, mask in enumerate(ahead)]
    for item, other, _ in flow:
        leads[other] |= 1 << item
    while True:
        wider = [with_all(leads, mask) for mask in leads]
        if wider == leads:
            return leads
        leads = wider
