"""What several tests need: values of every kind, what a call comes to, and trying out on small orders and worlds."""

import functools
import itertools
import random

from turnsall import errors

OWN_ERRORS = (errors.TurnError, errors.TooMany, errors.Missing, errors.NothingLeft)


class Thing:
    """A value of no kind that the program knows, equal to nothing."""

    __hash__ = None

    def __eq__(self, other):
        raise AssertionError("a strange value was compared")


class Same:
    """A value that says that it equals everything."""

    def __eq__(self, other):
        return True

    def __hash__(self):
        return 1


class Row(tuple):
    """A tuple that is not a plain one."""


class Number(int):
    """An integer that is not a plain one."""


class Word(str):
    """A string that is not a plain one."""


def junk():
    """Values that no argument may be, whatever it is."""
    return [
        True, False, "", "x", "form", b"", b"ab", [], [0], [0, 1], {}, {0: 1}, set(), frozenset((0,)), range(3),
        len, int, Thing, Thing(), Same(), object(), ..., NotImplemented, -1, 10 ** 50, -10 ** 50, 1j,
        (None,), (True,), (Thing(),), (Same(), Same()), ([],), ((0, [1]),), ("x", "y"), (0, (1, {})),
        tuple(range(40)), (10 ** 40,), ((((),),),),
    ]


def raised(call, *args):
    """The class and the fields of the error that a call raises; None and what it returns of any other one."""
    try:
        result = call(*args)
    except OWN_ERRORS as error:
        return error.__class__.__name__, vars(error)
    return None, result


def is_plain(value):
    """Whether it is made of plain tuples, strings and integers alone, of True, False and None."""
    if type(value) is tuple:
        return all(is_plain(thing) for thing in value)
    return value is None or type(value) in (int, str, bool)


def strange(value):
    """The same value out of tuples, integers and strings that are not plain."""
    if isinstance(value, tuple):
        return Row(strange(thing) for thing in value)
    if isinstance(value, bool) or value is None:
        return value
    return Number(value) if isinstance(value, int) else Word(value)


# Orders.


def some_order(seed, many, chance):
    """An ORDER of so many items; each pair is there by chance, of 100."""
    dice = random.Random(seed)
    pairs = [pair for pair in itertools.combinations(range(many), 2) if dice.randrange(100) < chance]
    return (many, tuple(pairs))


def small_orders():
    """ORDERS of at most six items."""
    found = [(0, ()), (1, ()), (2, ()), (2, ((0, 1),)), (4, ((0, 2), (0, 3), (1, 2))), (3, ((0, 1), (0, 2), (1, 2)))]
    for seed in range(24):
        found.append(some_order(seed, 3 + seed % 4, (15, 30, 60)[seed % 3]))
    return found


def ahead_pairs(order):
    """All pairs (A, B) such that steps lead from A to B, by trying out."""
    many, pairs = order
    found = set(pairs)
    while True:
        more = {(a, d) for a, b in found for c, d in found if b == c} - found
        if not more:
            return found
        found |= more


def lots(many):
    """All LOTS, ascending."""
    return sorted(lot for size in range(many + 1) for lot in itertools.combinations(range(many), size))


def lowers(order):
    """All LOWERS, ascending, by trying out."""
    ahead = ahead_pairs(order)
    return [lot for lot in lots(order[0]) if all(a in lot for a, b in ahead if b in lot)]


def closed(many, ahead):
    return (many, tuple(sorted(ahead)))


def bare(many, ahead):
    kept = [(a, b) for a, b in ahead if not any((a, c) in ahead and (c, b) in ahead for c in range(many))]
    return (many, tuple(sorted(kept)))


# Worlds: an oracle is the pair of the list of all SOLUTIONS and of the function that tells, of a SOLUTION, the dict
# of all TURNS that can be done and the SOLUTIONS to which they lead.


def tried_out(solutions, steps_at):
    """What a WORLD with these SOLUTIONS and TURNS has, by the words of the document."""
    steps = {solution: steps_at(solution) for solution in solutions}
    led_to = {goal for way in steps.values() for goal in way.values()}
    least, = [solution for solution in solutions if solution not in led_to]
    greatest, = [solution for solution in solutions if not steps[solution]]
    numbered, spot = [], least
    while steps[spot]:
        numbered.append(min(steps[spot]))
        spot = steps[spot][numbered[-1]]
    assert spot == greatest
    ahead = set()
    for number, turn in enumerate(numbered):
        seen = reached(steps, least, turn)
        can = {each for solution in seen for each in steps[solution]}
        ahead |= {(number, far) for far, other in enumerate(numbered) if far != number and other not in can}
    below = {least: frozenset()}
    rest = [least]
    while rest:
        solution = rest.pop()
        for turn, goal in steps[solution].items():
            lower = below[solution] | {numbered.index(turn)}
            if goal not in below:
                rest.append(goal)
            assert below.setdefault(goal, lower) == lower
    return {
        "least": least, "greatest": greatest, "turns": tuple(numbered), "order": bare(len(numbered), ahead),
        "lowers": {solution: tuple(sorted(below[solution])) for solution in solutions}, "steps": steps,
    }


def reached(steps, start, without):
    """All SOLUTIONS to which TURNS lead, but that one."""
    found, rest = {start}, [start]
    while rest:
        solution = rest.pop()
        for turn, goal in steps[solution].items():
            if turn != without and goal not in found:
                found.add(goal)
                rest.append(goal)
    return found


# Pairs.


def some_pairs(seed, many):
    dice = random.Random(seed)
    return ("pairs",) + tuple(tuple(tuple(dice.sample(range(many), many)) for _ in range(many)) for _ in range(2))


def turning_pairs(many):
    """The WORLD in which others are wanted in a circle: many solutions, one TURN from each to the next one."""
    ones = tuple(tuple((one + step) % many for step in range(many)) for one in range(many))
    others = tuple(tuple((other + 1 + step) % many for step in range(many)) for other in range(many))
    return ("pairs", ones, others)


def swapped_pairs(swaps):
    """The WORLD of eight with as many TURNS, at most 28: two ones swap their others in each, by halves and halves."""
    have = [[each] for each in range(8)]
    had = [[each] for each in range(8)]
    for step in (1, 2, 1, 4, 1, 2, 1):
        for one in range(8):
            if one < one ^ step and swaps:
                swaps -= 1
                first, second = have[one][-1], have[one ^ step][-1]
                have[one].append(second)
                have[one ^ step].append(first)
                had[second].append(one)
                had[first].append(one ^ step)
    ones = tuple(tuple(row + [each for each in range(8) if each not in row]) for row in have)
    others = tuple(tuple(row[::-1] + [each for each in range(8) if each not in row]) for row in had)
    return ("pairs", ones, others)


def breaks(world, pairing):
    _, ones, others = world
    found = []
    for one, other in itertools.product(range(len(ones)), repeat=2):
        mate = pairing.index(other)
        if ones[one].index(other) < ones[one].index(pairing[one]) and others[other].index(one) < others[other].index(mate):
            found.append((one, other))
    return found


def next_tried(world, pairing, one):
    _, ones, others = world
    for other in ones[one][ones[one].index(pairing[one]) + 1:]:
        if others[other].index(one) < others[other].index(pairing.index(other)):
            return other
    return None


def rings_tried(world, pairing):
    many = len(pairing)
    follow = {}
    for one in range(many):
        other = next_tried(world, pairing, one)
        follow[one] = None if other is None else pairing.index(other)
    found = []
    for size in range(1, many + 1):
        for row in itertools.permutations(range(many), size):
            if row[0] == min(row) and all(follow[a] == b for a, b in zip(row, row[1:] + row[:1])):
                found.append(row)
    return sorted(found)


def pairs_oracle(world):
    many = len(world[1])
    solutions = [row for row in itertools.permutations(range(many)) if not breaks(world, row)]

    def steps_at(solution):
        steps = {}
        for ring in rings_tried(world, solution):
            goal = list(solution)
            for one in ring:
                goal[one] = next_tried(world, solution, one)
            steps[tuple(sorted((one, solution[one]) for one in ring))] = tuple(goal)
        return steps

    return solutions, steps_at


# Streets.


def town(rows, columns):
    """For each street its corners, and what is at its right and its left hand, by going through the map."""
    streets = []
    for row in range(rows + 1):
        for column in range(columns):
            streets.append(((row, column), (row, column + 1), (row, column), (row - 1, column)))
    for row in range(rows):
        for column in range(columns + 1):
            streets.append(((row, column), (row + 1, column), (row, column - 1), (row, column)))

    def corner(pair):
        return pair[0] * (columns + 1) + pair[1]

    def block(pair):
        return pair[0] * columns + pair[1] if 0 <= pair[0] < rows and 0 <= pair[1] < columns else None

    return [((corner(a), corner(b)), (block(c), block(d))) for a, b, c, d in streets]


def outs_tried(rows, columns, ways):
    outs = [0] * ((rows + 1) * (columns + 1))
    for (ends, _), way in zip(town(rows, columns), ways):
        outs[ends[0] if way == 1 else ends[1]] += 1
    return tuple(outs)


@functools.lru_cache(maxsize=None)
def ways_tried(rows, columns, outs):
    """All WAYS by which the OUTS are so, by trying street by street."""
    streets = town(rows, columns)
    last = {}
    for street, (ends, _) in enumerate(streets):
        last[ends[0]] = last[ends[1]] = street
    found = []

    def go_on(ways, left):
        street = len(ways)
        if street == len(streets):
            found.append(tuple(ways))
            return
        ends = streets[street][0]
        for way in (0, 1):
            start = ends[0] if way == 1 else ends[1]
            rest = list(left)
            rest[start] -= 1
            if rest[start] >= 0 and all(rest[end] == 0 for end in ends if last[end] == street):
                go_on(ways + [way], rest)

    go_on([], list(outs))
    return tuple(found)


def hands_tried(world, ways):
    return [hands if way == 1 else hands[::-1] for (_, hands), way in zip(town(world[1], world[2]), ways)]


def round_tried(world, solution, blocks, spot=0):
    """The SOLUTION that comes of it if the blocks go round (spot 0) or back (1); None if they cannot."""
    goal = list(solution)
    for street, hands in enumerate(hands_tried(world, solution)):
        inside = [hand is not None and hand in blocks for hand in hands]
        if inside[0] != inside[1]:
            if not inside[spot]:
                return None
            goal[street] = 1 - goal[street]
    return tuple(goal)


def heights_tried(world, least, solution):
    """The HEIGHTS of the SOLUTION, going across one street after another."""
    heights = {None: 0}
    hands = hands_tried(world, least)
    while len(heights) < world[1] * world[2] + 1:
        for street, (right, left) in enumerate(hands):
            other_way = 1 if solution[street] != least[street] else 0
            if left in heights and right not in heights:
                heights[right] = heights[left] + other_way
            elif right in heights and left not in heights:
                heights[left] = heights[right] - other_way
    return tuple(heights[block] for block in range(world[1] * world[2]))


def held_tried(world, solutions):
    """All that holds together, as lists with None for the outside, by all SOLUTIONS."""
    parts = [[block] for block in range(world[1] * world[2])] + [[None]]
    for street, (_, (right, left)) in enumerate(town(world[1], world[2])):
        if len({ways[street] for ways in solutions}) == 1:
            first, = [part for part in parts if right in part]
            second, = [part for part in parts if left in part]
            if first != second:
                parts = [part for part in parts if part not in (first, second)] + [first + second]
    return parts


def streets_oracle(world):
    solutions = ways_tried(*world[1:])
    groups = sorted(tuple(sorted(part)) for part in held_tried(world, solutions) if None not in part)
    least, = [ways for ways in solutions if not any(round_tried(world, ways, group, 1) for group in groups)]

    def steps_at(solution):
        heights = heights_tried(world, least, solution)
        steps = {}
        for group in groups:
            goal = round_tried(world, solution, group)
            if goal is not None:
                steps[(group, heights[group[0]])] = goal
        return steps

    return solutions, steps_at


def some_streets(seed, rows, columns):
    dice = random.Random(seed)
    ways = [dice.randrange(2) for _ in town(rows, columns)]
    return ("streets", rows, columns, outs_tried(rows, columns, ways))


# Plans.


def times_tried(spans, bounds):
    rows = itertools.product(*[range(low, high + 1) for low, high in spans])
    return [row for row in rows if all(row[j] - row[i] <= most for i, j, most in bounds)]


def plan_steps(spans, bounds):
    steps = {(i, j): most for i, j, most in bounds}
    for job, (low, high) in enumerate(spans):
        steps[(None, job)] = high
        steps[(job, None)] = -low
    return steps


def roads_tried(spans, bounds, start=..., goal=...):
    """The dict of the LENGTH of all ROADS, perhaps from one PLACE to another one."""
    steps = plan_steps(spans, bounds)
    places = [None] + list(range(len(spans)))
    found = {}
    for size in range(1, len(places) + 1):
        for road in itertools.permutations(places, size):
            if start is not ... and (road[0], road[-1]) != (start, goal):
                continue
            if all(step in steps for step in zip(road, road[1:])):
                found[road] = sum(steps[step] for step in zip(road, road[1:]))
    return found


def plan_oracle(world):
    _, spans, bounds = world
    solutions = times_tried(spans, bounds)
    least = min(solutions, key=sum)
    jobs = range(len(spans))
    gaps = {(i, j): {row[j] - row[i] for row in solutions} for i in jobs for j in jobs}
    still = [job for job in jobs if len({row[job] for row in solutions}) == 1]
    groups = sorted({tuple(j for j in jobs if len(gaps[i, j]) == 1) for i in jobs if i not in still})

    def steps_at(solution):
        steps = {}
        for group in groups:
            goal = tuple(time + (job in group) for job, time in enumerate(solution))
            if goal in solutions:
                steps[(group, solution[group[0]] - least[group[0]])] = goal
        return steps

    return solutions, steps_at


def some_plan(seed, jobs, wide):
    """A WORLD of a plan with few times, perhaps without a SOLUTION."""
    dice = random.Random(seed)
    spans = []
    for _ in range(jobs):
        low = dice.randrange(-3, 4)
        spans.append((low, low + dice.randrange(wide + 1)))
    pairs = sorted(dice.sample(list(itertools.permutations(range(jobs), 2)), dice.randrange(jobs * (jobs - 1) + 1)))
    return ("plan", tuple(spans), tuple((i, j, dice.randrange(-2, 5)) for i, j in pairs))


# Floors.


def layings_tried(field):
    """All LAYINGS, by trying out all lots of TILES of cells that are not yet in one."""
    tiles = [(a, b) for a, b in itertools.combinations(field, 2) if abs(a[0] - b[0]) + abs(a[1] - b[1]) == 1]
    found = []

    def go_on(laid, spot):
        cells = [cell for tile in laid for cell in tile]
        if len(cells) == len(field):
            found.append(tuple(laid))
        for at in range(spot, len(tiles)):
            if tiles[at][0] not in cells and tiles[at][1] not in cells:
                go_on(laid + [tiles[at]], at + 1)

    go_on([], 0)
    return sorted(found)


def block_turned_tried(laying, row, column, on):
    """The LAYING with the BLOCK turned on, or back; None if it cannot be."""
    a, b, c, d = (row, column), (row, column + 1), (row + 1, column), (row + 1, column + 1)
    old, new = [(a, b), (c, d)], [(a, c), (b, d)]
    if ((row + column) % 2 == 0) != on:
        old, new = new, old
    if not all(tile in laying for tile in old):
        return None
    return tuple(sorted([tile for tile in laying if tile not in old] + new))


def floor_oracle(world):
    solutions = layings_tried(world[1])
    cells = [cell for cell in world[1]]

    def is_least(laying):
        return not any(block_turned_tried(laying, row, column, False) for row, column in cells)

    least, = [laying for laying in solutions if is_least(laying)]
    times = {least: {cell: 0 for cell in cells}}
    rest = [least]
    while rest:
        laying = rest.pop()
        for row, column in cells:
            goal = block_turned_tried(laying, row, column, True)
            if goal is not None:
                told = dict(times[laying])
                told[row, column] += 1
                if goal not in times:
                    rest.append(goal)
                assert times.setdefault(goal, told) == told

    def steps_at(solution):
        steps = {}
        for row, column in cells:
            goal = block_turned_tried(solution, row, column, True)
            if goal is not None:
                steps[(row, column, times[solution][row, column])] = goal
        return steps

    return solutions, steps_at


def some_fields(count, sizes):
    """FIELDS, some with LAYINGS and some without."""
    found = []
    dice = random.Random(5)
    while len(found) < count:
        field = {(dice.randrange(6), dice.randrange(6))}
        size = dice.choice(sizes)
        while len(field) < size:
            row, column = dice.choice(sorted(field))
            down, right = dice.choice([(0, 1), (1, 0), (0, -1), (-1, 0)])
            if 0 <= row + down <= 5 and 0 <= column + right <= 5:
                field.add((row + down, column + right))
        if is_whole({(r, c) for r in range(-1, 7) for c in range(-1, 7)} - field):
            found.append(tuple(sorted(field)))
    return found


def is_whole(cells):
    """Whether one comes from each to each other one."""
    left = set(cells)
    rest = [left.pop()]
    while rest:
        row, column = rest.pop()
        near = {(row, column + 1), (row, column - 1), (row + 1, column), (row - 1, column)} & left
        left -= near
        rest.extend(near)
    return not left


def square(rows, columns):
    return tuple((row, column) for row in range(rows) for column in range(columns))


def is_balanced(field):
    return sum((row + column) % 2 for row, column in field) * 2 == len(field)


def steps_tried(field):
    """The dict of all STEPS with what is at the right and at the left hand."""
    found = {}
    for row, column in field:
        corners = [(row, column), (row, column + 1), (row + 1, column + 1), (row + 1, column)]
        out = [(row - 1, column), (row, column + 1), (row + 1, column), (row, column - 1)]
        # Round a cell from its upper left corner by the right: the cell is at the right hand.
        for start, goal, beyond in zip(corners, corners[1:] + corners[:1], out):
            found[start, goal] = ((row, column), beyond)
            found[goal, start] = (beyond, (row, column))
    return found


def rises_tried(field):
    """The dict of the GREATEST RISE of all STEPS, and the HEIGHTS of the BORDER, of a field with as many of both."""
    rises, border = {}, {}
    for step, (right, left) in steps_tried(field).items():
        dark = (right[0] + right[1]) % 2 == 0
        inner = right in field and left in field
        rises[step] = 1 if dark else 3 if inner else -1
        if not inner:
            border[step] = rises[step]
    heights = {min(step[0] for step in border): 0}
    while True:
        more = {goal: heights[start] + rise for (start, goal), rise in border.items() if start in heights and goal not in heights}
        if not more:
            break
        heights.update(more)
    for (start, goal), rise in border.items():
        assert heights[goal] - heights[start] == rise
    return rises, heights


def heights_of_tried(field, laying):
    """The dict of the HEIGHT of each POINT, by STEPS from the least one, and by all STEPS the same."""
    rises = {}
    for step, hands in steps_tried(field).items():
        rises[step] = 1 if sum(hands[0]) % 2 == 0 else -1
        if tuple(sorted(hands)) in laying:
            rises[step] *= -3
    heights = {min(step[0] for step in rises): 0}
    while True:
        more = {goal: heights[start] + rise for (start, goal), rise in rises.items() if start in heights and goal not in heights}
        if not more:
            break
        heights.update(more)
    for (start, goal), rise in rises.items():
        assert heights[goal] - heights[start] == rise
    return heights


# Nets.


def width_tried(pipes, side):
    return sum(room for start, goal, room in pipes if start in side and goal not in side)


def net_oracle(world):
    _, places, pipes = world
    sides = [(0,) + tuple(lot) for size in range(places - 1) for lot in itertools.combinations(range(1, places - 1), size)]
    least = min(width_tried(pipes, side) for side in sides)
    solutions = [side for side in sides if width_tried(pipes, side) == least]
    loose = [place for place in range(places) if len({place in side for side in solutions}) == 2]
    pieces = {
        tuple(other for other in loose if all((other in side) == (place in side) for side in solutions))
        for place in loose
    }

    def steps_at(solution):
        goals = {piece: tuple(sorted(solution + piece)) for piece in pieces if piece[0] not in solution}
        return {piece: goal for piece, goal in goals.items() if goal in solutions}

    return solutions, steps_at


def some_net(seed, places, chance):
    dice = random.Random(seed)
    pipes = []
    for start, goal in itertools.permutations(range(places), 2):
        if dice.randrange(100) < chance:
            pipes.append((start, goal, dice.choice((0, 1, 1, 1, 2))))
    return ("net", places, tuple(pipes))


# Pins.


BAD_PINS = [
    None, (), ((),), ((), (), ()), [(), ()], ((), []), ([], ()), ((), None), (0, 1), ("", ""), ("0", "1"), ((True,), ()), ((), (False,)),
    ((0, 0), ()), ((), (2, 1)), ((-1,), ()), ((), (9,)), (((0,),), ()), ({0}, ()), ((None,), ()), ((Same(),), ()), ((), (Thing(),)),
]


def fits_tried(order, pins):
    """All LOWERS that fit PINS, ascending, by trying out."""
    inside, outside = pins
    return [lower for lower in lowers(order) if set(inside) <= set(lower) and not set(outside) & set(lower)]


def some_pins(order, count):
    """PINS of the ORDER, those without items and all that an item is put into among them; some clash."""
    dice = random.Random(order[0] + len(order[1]))
    found = [((), ())]
    for item in range(order[0]):
        found += [((item,), ()), ((), (item,)), ((item,), (item,))]
    while len(found) < count:
        chosen = [dice.choice("  io") for _ in range(order[0])]
        found.append(tuple(tuple(item for item, word in enumerate(chosen) if word == each) for each in "io"))
    return found[:count]


def good_pins(order, count):
    """PINS as above that do not clash."""
    return [pins for pins in some_pins(order, count) if fits_tried(order, pins)]
