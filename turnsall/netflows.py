"""FLOWS of nets: one with the greatest SUM, and what leads to what by it."""

from turnsall.kinds import is_number, is_tuple_of


def greatest_flow(places, pipes):
    """A FLOW with the greatest SUM."""
    flow = [0] * len(pipes)
    while True:
        came = _came_by(places, pipes, flow)
        if places - 1 not in came:
            return tuple(flow)
        road = _road_back(pipes, came, places - 1)
        more = min([room for _, _, room in road])
        for pipe, sign, _ in road:
            flow[pipe] += sign * more


def _came_by(places, pipes, flow):
    """For each place to which 0 leads the step by which one first comes to it, (PIPE, SIGN, ROOM)."""
    steps = steps_by(places, pipes, flow)
    came = {0: None}
    reached = [0]
    # The nearest places come first: so there are few rounds, however great the rooms are.
    while reached:
        coming = []
        for place in reached:
            for goal, step in steps[place]:
                if goal not in came:
                    came[goal] = step
                    coming.append(goal)
        reached = coming
    return came


def steps_by(places, pipes, flow):
    """For each place all STEPS from it, as pairs (TO, (PIPE, 1 along it or -1 against it, how much))."""
    steps = [[] for _ in range(places)]
    for pipe, (start, goal, room) in enumerate(pipes):
        if flow[pipe] < room:
            steps[start].append((goal, (pipe, 1, room - flow[pipe])))
        if flow[pipe] > 0:
            steps[goal].append((start, (pipe, -1, flow[pipe])))
    return steps


def _road_back(pipes, came, goal):
    """The steps by which one comes from 0 to goal, the last one first."""
    road = []
    while came[goal] is not None:
        step = came[goal]
        road.append(step)
        goal = pipes[step[0]][0 if step[1] == 1 else 1]
    return road


def leads_by(places, pipes, flow):
    """For each place the dict of all places to which it leads, each with True."""
    steps = steps_by(places, pipes, flow)
    return [_led_to(steps, place) for place in range(places)]


def _led_to(steps, place):
    found = {place: True}
    reached = [place]
    while reached:
        spot = reached.pop()
        for goal, _ in steps[spot]:
            if goal not in found:
                found[goal] = True
                reached.append(goal)
    return found


def sum_of_flow(pipes, flow):
    """How much more is told of pipes from 0 than of pipes to 0."""
    return 0 - _gain_at(pipes, flow, 0)


def _gain_at(pipes, flow, place):
    """How much more is told of pipes to the place than of pipes from it."""
    gain = 0
    for (start, goal, _), amount in zip(pipes, flow):
        if goal == place:
            gain += amount
        if start == place:
            gain -= amount
    return gain


def is_flow_of(places, pipes, value):
    """Whether what plain() told is a FLOW."""
    if not is_tuple_of(value, len(pipes)):
        return False
    if not all([is_number(amount, 0, pipe[2]) for amount, pipe in zip(value, pipes)]):
        return False
    if sum_of_flow(pipes, value) < 0:
        return False
    return all([_gain_at(pipes, value, place) == 0 for place in range(1, places - 1)])


def width_by(pipes, side):
    """The WIDTH of a SIDE."""
    return sum([room for start, goal, room in pipes if start in side and goal not in side])
