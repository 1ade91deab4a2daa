import itertools
import random
import unittest

from helper import Same, Thing, is_plain, junk, net_oracle, raised, some_net, square, strange, swapped_pairs, width_tried
from turnsall.leads import always_in, does_lead, flow_sum, never_in, piece_ahead, pieces
from turnsall.nets import check_net, least_width, net_paper, width_of
from turnsall.pipes import out_of_all, out_of_some, room_line, with_room
from turnsall.worlds import all_solutions, greatest_solution, least_solution, need_world, turns

LINE = ("net", 4, ((0, 1, 2), (1, 2, 2), (2, 1, 1), (2, 3, 2)))
ROUND = ("net", 5, ((0, 1, 0), (1, 2, 3), (2, 3, 1), (3, 2, 1), (3, 4, 0)))
NETS = [some_net(seed, 2 + seed % 5, (0, 20, 40, 60)[seed % 4]) for seed in range(60)] + [
    LINE, ROUND, ("net", 2, ()), ("net", 2, ((0, 1, 0),)), ("net", 2, ((0, 1, 100), (1, 0, 100))), ("net", 5, ()),
    ("net", 6, ((0, 1, 1), (0, 2, 1), (1, 3, 1), (2, 4, 1), (3, 5, 1), (4, 5, 1))),
    # Here a pipe goes back to 0, and one goes out of the last.
    ("net", 4, ((0, 1, 3), (1, 0, 2), (1, 2, 1), (2, 3, 2), (3, 1, 2))),
]
CALLS = (
    (width_of, 1), (least_width, 0), (net_paper, 0), (check_net, 1), (flow_sum, 1), (does_lead, 3), (always_in, 0), (never_in, 0),
    (pieces, 0), (piece_ahead, 1), (out_of_some, 0), (out_of_all, 0), (with_room, 2), (room_line, 1),
)
ELSE = [
    (("plan", ((0, 21),), ()), "word"), (swapped_pairs(28), "word"), (("floor", square(2, 2)), "word"),
    (("streets", 1, 1, (1,) * 4), "word"), (("net", 1, ()), "places"), (("net", 23, ()), "places"), (("net", 3, ((0, 0, 1),)), "pipes"),
    (("net", 3, ((0, 1, 101),)), "pipes"), (("net", 2), "form"), (("nets", 2, ()), "form"), (None, "form"), (Thing(), "form"),
]
BAD_SIDES = [None, (), (1,), (0, 3), (0, 2, 1), (0, 0), (0, -1), [0, 1], (0, True), (False, 1), (0, None), (0, 4), 0, "0", (0, (1,))]


def sides(places):
    return [(0,) + lot for size in range(places - 1) for lot in itertools.combinations(range(1, places - 1), size)]


def sum_tried(world, flow):
    """The SUM of a FLOW; None of what is none, if it is a tuple of so many integers."""
    _, places, pipes = world
    gain = [0] * places
    for (start, goal, room), amount in zip(pipes, flow):
        if not 0 <= amount <= room:
            return None
        gain[start] -= amount
        gain[goal] += amount
    return -gain[0] if gain[0] <= 0 and not any(gain[1:-1]) else None


def flows(world):
    """All FLOWS of a net with few and narrow pipes."""
    rows = itertools.product(*[range(room + 1) for _, _, room in world[2]])
    return [row for row in rows if sum_tried(world, row) is not None]


def few(world):
    many = 1
    for _, _, room in world[2]:
        many *= room + 1
    return many <= 1500


def leads_tried(world, flow):
    """All pairs of a place and one to which it leads."""
    _, places, pipes = world
    found = {(place, place) for place in range(places)}
    for (start, goal, room), amount in zip(pipes, flow):
        found |= ({(start, goal)} if amount < room else set()) | ({(goal, start)} if amount else set())
    while True:
        more = {(a, d) for a, b in found for c, d in found if b == c} - found
        if not more:
            return found
        found |= more


class Widths(unittest.TestCase):

    def test_widths(self):
        for world in NETS:
            _, places, pipes = world
            widths = {side: width_tried(pipes, side) for side in sides(places)}
            for side, width in widths.items():
                self.assertEqual(width_of(world, side), width)
            self.assertEqual(least_width(world), min(widths.values()))
            for first, second in itertools.product(list(widths)[:9], repeat=2):
                common = tuple(sorted(set(first) & set(second)))
                both = tuple(sorted(set(first) | set(second)))
                self.assertLessEqual(widths[common] + widths[both], widths[first] + widths[second])

    def test_papers(self):
        for world in NETS + [some_net(seed, 22, 9) for seed in range(3)]:
            side, flow = net_paper(world)
            self.assertEqual(width_of(world, side), flow_sum(world, flow))
            self.assertEqual(check_net(world, (side, flow)), least_width(world))

    def test_any_paper_that_holds(self):
        held = 0
        for world in [world for world in NETS if few(world)]:
            least = least_width(world)
            for side in sides(world[1]):
                width = width_tried(world[2], side)
                for flow in flows(world)[-25:]:
                    due = (None, least) if sum_tried(world, flow) == width else ("BadPaper", {"part": "sum"})
                    self.assertEqual(raised(check_net, world, (side, flow)), due)
                    held += due[0] is None
                    self.assertLessEqual(sum_tried(world, flow), width)
        self.assertGreater(held, 200)

    def test_bent_papers(self):
        side, flow = net_paper(LINE)
        self.assertEqual((side, flow), ((0,), (2, 2, 0, 2)))
        self.assertEqual(check_net(LINE, ((0, 1, 2), (2, 2, 0, 2))), 2)
        for paper in junk() + [None, (side,), (side, flow, 0), [side, flow], (), side + flow]:
            pair = isinstance(paper, tuple) and len(paper) == 2
            self.assertEqual(raised(check_net, LINE, paper), ("BadPaper", {"part": "side" if pair else "form"}), paper)
        for wrong in junk() + BAD_SIDES:
            self.assertEqual(raised(check_net, LINE, (wrong, Thing())), ("BadPaper", {"part": "side"}), wrong)
        for wrong in junk() + [
            None, (), flow[:-1], flow + (0,), list(flow), (2, 2, 0, 1), (3, 3, 0, 3), (-1, -1, 0, -1), (2, 2, 0, None), (2, 2, False, 2),
            (2, 2, 0, "2"), (2, 2, 0, Same()),
        ]:
            self.assertEqual(raised(check_net, LINE, (side, wrong)), ("BadPaper", {"part": "flow"}), wrong)
        self.assertEqual(raised(check_net, LINE, (side, (1, 1, 0, 1))), ("BadPaper", {"part": "sum"}))
        self.assertEqual(check_net(LINE, ((0,), (2, 2, 0, 2))), 2)

    def test_large_nets(self):
        # All places beside one another, as many pipes as there may be.
        dice = random.Random(4)
        pairs = sorted(dice.sample(list(itertools.permutations(range(22), 2)), 200))
        world = ("net", 22, tuple((start, goal, dice.randrange(101)) for start, goal in pairs))
        self.assertEqual(check_net(world, net_paper(world)), least_width(world))
        self.assertEqual(width_of(world, greatest_solution(world)), least_width(world))
        self.assertEqual(raised(need_world, ("net", 22, world[2] + ((21, 22, 0),)))[0], "BadWorld")
        free = ("net", 22, ())
        self.assertEqual((len(turns(free)), least_width(free), pieces(free)), (20, 0, tuple((place,) for place in range(1, 21))))
        self.assertEqual(check_net(free, ((0, 5, 20), ())), 0)
        wide = ("net", 22, tuple((place, place + 1, 100) for place in range(21)))
        self.assertEqual((least_width(wide), len(turns(wide)), out_of_all(wide)), (100, 20, ()))


class Leads(unittest.TestCase):

    def test_flows(self):
        for world in [world for world in NETS if few(world)]:
            for flow in itertools.product(*[range(-1 if room == 2 else 0, room + 2) for _, _, room in world[2][:4]]):
                flow += (0,) * (len(world[2]) - len(flow))
                due = sum_tried(world, flow)
                self.assertEqual(raised(flow_sum, world, flow), (None, due) if due is not None else ("BadFlow", {"given": flow}))
                if due is not None:
                    for side in sides(world[1]):
                        out = sum(n for (a, b, _), n in zip(world[2], flow) if a in side and b not in side)
                        back = sum(n for (a, b, _), n in zip(world[2], flow) if a not in side and b in side)
                        self.assertEqual(due, out - back)
        # More to 0 than from 0.
        back = ("net", 3, ((1, 0, 2), (2, 1, 2)))
        self.assertEqual(flow_sum(back, (0, 0)), 0)
        self.assertEqual(raised(flow_sum, back, (1, 1)), ("BadFlow", {"given": (1, 1)}))

    def test_does_lead(self):
        for world in [world for world in NETS if few(world)][:40]:
            for flow in flows(world)[:4] + flows(world)[-4:]:
                tried = leads_tried(world, flow)
                for place, far in itertools.product(range(world[1]), repeat=2):
                    self.assertIs(does_lead(world, flow, place, far), (place, far) in tried)

    def test_in_and_pieces(self):
        for world in NETS:
            right, _ = net_oracle(world)
            places = range(world[1])
            self.assertEqual(always_in(world), tuple(p for p in places if all(p in side for side in right)))
            self.assertEqual(never_in(world), tuple(p for p in places if not any(p in side for side in right)))
            loose = [p for p in places if p not in always_in(world) + never_in(world)]
            due = {tuple(q for q in loose if all((p in side) == (q in side) for side in right)) for p in loose}
            self.assertEqual(pieces(world), tuple(sorted(due)))
            self.assertEqual(sorted(turns(world)), list(pieces(world)))
            for place in places:
                having = [set(side) for side in right if place in side]
                self.assertEqual(piece_ahead(world, place), tuple(sorted(set.intersection(*having))) if having else None)

    def test_the_same_by_each_greatest_flow(self):
        for world in [world for world in NETS if few(world)]:
            greatest = [flow for flow in flows(world) if sum_tried(world, flow) == least_width(world)]
            self.assertTrue(greatest)
            for flow in greatest[:10]:
                tried = leads_tried(world, flow)
                closed = [side for side in sides(world[1]) if all(b in side for a, b in tried if a in side)]
                self.assertEqual(sorted(closed), sorted(all_solutions(world)))
                self.assertEqual(always_in(world), tuple(sorted(b for a, b in tried if a == 0)))
                self.assertEqual(never_in(world), tuple(sorted(a for a, b in tried if b == world[1] - 1)))

    def test_edges(self):
        self.assertEqual(pieces(ROUND), ((1,), (2, 3)))
        self.assertEqual((always_in(ROUND), never_in(ROUND)), ((0,), (4,)))
        self.assertEqual((piece_ahead(ROUND, 1), piece_ahead(ROUND, 3), piece_ahead(ROUND, 4)), ((0, 1, 2, 3), (0, 2, 3), None))
        self.assertEqual((always_in(LINE), never_in(LINE), pieces(LINE)), ((0,), (3,), ((1,), (2,))))
        two = ("net", 2, ())
        self.assertEqual((always_in(two), never_in(two), pieces(two), net_paper(two)), ((0,), (1,), (), ((0,), ())))


class Pipes(unittest.TestCase):

    def test_out_of_some_and_all(self):
        for world in NETS:
            right, _ = net_oracle(world)
            out = [[a in side and b not in side for side in right] for a, b, _ in world[2]]
            self.assertEqual(out_of_some(world), tuple(pipe for pipe, row in enumerate(out) if any(row)))
            self.assertEqual(out_of_all(world), tuple(pipe for pipe, row in enumerate(out) if all(row)))
            flow = net_paper(world)[1]
            for pipe in out_of_some(world):
                self.assertEqual(flow[pipe], world[2][pipe][2])

    def test_one_room_less_or_more(self):
        for world in NETS:
            for pipe, (_, _, room) in enumerate(world[2]):
                least = least_width(world)
                if room:
                    self.assertEqual(least_width(with_room(world, pipe, room - 1)), least - (pipe in out_of_some(world)))
                if room < 100:
                    self.assertEqual(least_width(with_room(world, pipe, room + 1)), least + (pipe in out_of_all(world)))

    def test_with_room(self):
        for room in (0, 1, 100):
            self.assertEqual(with_room(LINE, 2, room), ("net", 4, ((0, 1, 2), (1, 2, 2), (2, 1, room), (2, 3, 2))))
        for value in junk() + [None, 101, "1", (1,), [1], 0.5]:
            kind, fields = raised(with_room, LINE, 0, value)
            self.assertEqual(kind, "BadRoom", value)
            self.assertIs(fields["given"], value)

    def test_room_line(self):
        seen = set()
        for world in NETS:
            for pipe, (start, goal, _) in enumerate(world[2]):
                across = [width_tried(world[2][:pipe] + world[2][pipe + 1:], side) for side in sides(world[1])
                          if start in side and goal not in side]
                other = [width_tried(world[2], side) for side in sides(world[1]) if not (start in side and goal not in side)]
                told = room_line(world, pipe)
                self.assertEqual(told, (min(across) if across else None, min(other) if other else None))
                seen.add((told[0] is None, told[1] is None))
                for room in (0, 1, 2, 5, 100):
                    due = [told[0] + room] if told[0] is not None else []
                    due += [told[1]] if told[1] is not None else []
                    self.assertEqual(least_width(with_room(world, pipe, room)), min(due))
        self.assertEqual(seen, {(False, False), (True, False), (False, True)})
        self.assertEqual(room_line(("net", 2, ((0, 1, 7),)), 0), (0, None))
        self.assertEqual(room_line(("net", 2, ((0, 1, 100), (1, 0, 100))), 1), (None, 100))

    def test_wide_room_lines(self):
        pipes = [(start, goal, 100) for start, goal in itertools.permutations(range(11), 2)] + [(place, 21, 100) for place in range(11)]
        world = ("net", 22, tuple(sorted(pipes)))
        self.assertEqual(least_width(world), 1100)
        self.assertEqual(room_line(world, 0), (1000, 1100))


class Wrong(unittest.TestCase):

    def test_wrong_worlds(self):
        for call, many in CALLS:
            for world, part in ELSE:
                self.assertEqual(raised(call, world, *[Thing()] * many), ("BadWorld", {"part": part}))

    def test_wrong_sides(self):
        for value in junk() + BAD_SIDES:
            kind, fields = raised(width_of, LINE, value)
            self.assertEqual(kind, "BadSide", value)
            self.assertIs(fields["given"], value)

    def test_wrong_flows_places_pipes(self):
        for value in junk() + [None, (), (0, 0, 0), (0,) * 5, [0] * 4, (1, 0, 0, 0), (True, True, 0, True), (0, 0, 0, None), (0, 0, 0, Same())]:
            for call, more in ((flow_sum, []), (does_lead, [Thing(), Thing()])):
                kind, fields = raised(call, LINE, value, *more)
                self.assertEqual(kind, "BadFlow", value)
                self.assertIs(fields["given"], value)
        flow = (0, 0, 0, 0)
        for value in junk() + [None, 4, "0", (0,), [0], False]:
            for call, args in ((does_lead, (flow, value, Thing())), (does_lead, (flow, 3, value)), (piece_ahead, (value,))):
                kind, fields = raised(call, LINE, *args)
                self.assertEqual(kind, "BadPlace", value)
                self.assertIs(fields["given"], value)
            for call, args in ((with_room, (value, Thing())), (room_line, (value,))):
                kind, fields = raised(call, LINE, *args)
                self.assertEqual(kind, "BadPipe", value)
                self.assertIs(fields["given"], value)
        self.assertEqual(raised(room_line, ("net", 4, ()), 0), ("BadPipe", {"given": 0}))

    def test_what_is_told_is_plain(self):
        world, flow = strange(LINE), strange((2, 2, 0, 2))
        told = [width_of(world, strange((0, 1))), least_width(world), net_paper(world), check_net(world, strange(((0,), (2, 2, 0, 2))))]
        told += [flow_sum(world, flow), does_lead(world, flow, strange(1), strange(2)), always_in(world), never_in(world), pieces(world)]
        told += [piece_ahead(world, strange(1)), out_of_some(world), out_of_all(world), with_room(world, strange(1), strange(9))]
        told += [room_line(world, strange(3)), least_solution(world)]
        self.assertTrue(all(is_plain(each) for each in told))


if __name__ == "__main__":
    unittest.main()
