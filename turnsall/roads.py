"""Least lengths of roads by steps (FROM, TO, BY) between spots 0 to many - 1; BY may be below 0."""


def roads_from(many, steps, start):
    """For each spot the least length of a road from start, None where none leads, and the spot ahead of it there.

    No ring is below 0.
    """
    lengths = [None] * many
    before = [None] * many
    lengths[start] = 0
    changed = True
    while changed:
        changed = False
        for spot, goal, by in steps:
            if lengths[spot] is None:
                continue
            length = lengths[spot] + by
            if lengths[goal] is None or length < lengths[goal]:
                lengths[goal] = length
                before[goal] = spot
                changed = True
    return lengths, before


def all_lengths(many, steps):
    """For each spot the least lengths of roads from it to all spots."""
    return [roads_from(many, steps, start)[0] for start in range(many)]


def road_to(before, goal):
    """The spots of the least road to goal."""
    road = [goal]
    while before[road[-1]] is not None:
        road.append(before[road[-1]])
    return tuple(road[::-1])


def ring_below(many, steps):
    """The spots of a ring with a length below 0, in turn; None if there is none."""
    lengths = [0] * many
    before = [None] * many
    late = None
    for _ in range(many + 1):
        late = None
        for spot, goal, by in steps:
            if lengths[spot] + by < lengths[goal]:
                lengths[goal] = lengths[spot] + by
                before[goal] = spot
                late = goal
    if late is None:
        return None
    # What is still made less is led to by a ring; so many steps back one is in it.
    for _ in range(many):
        late = before[late]
    ring = [late]
    while before[ring[-1]] != late:
        ring.append(before[ring[-1]])
    return tuple(ring[::-1])
