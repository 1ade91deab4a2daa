"""WORLDS of nets."""

from turnsall.errors import BadWorld
from turnsall.frames import WorldFrame
from turnsall.kinds import is_ascending, is_lot, is_number, is_tuple_of
from turnsall.netflows import greatest_flow, leads_by

MOST_PLACES = 22
MOST_PIPES = 200
MOST_ROOM = 100


class NetWorld(WorldFrame):
    """A WORLD of a net: its LEAST SOLUTION, its PIECES, and what can be done at each SOLUTION."""

    def __init__(self, places, pipes):
        self.word = "net"
        self.many = places
        self.pipes = pipes
        self.flow = greatest_flow(places, pipes)
        self.leads_to = leads_by(places, pipes, self.flow)
        # The places to which 0 leads are in each SOLUTION, and are one.
        self.least = tuple(sorted(self.leads_to[0]))
        self.pieces = self._all_pieces()

    def _all_pieces(self):
        """All PIECES, by the least place of each."""
        open_places = [
            place for place in range(self.many)
            if place not in self.leads_to[0] and not self.is_never_in(place)
        ]
        found = []
        for place in open_places:
            piece = tuple([
                other for other in open_places
                if other in self.leads_to[place] and place in self.leads_to[other]
            ])
            if piece[0] == place:
                found.append(piece)
        return tuple(found)

    def is_never_in(self, place):
        """Whether no SOLUTION has the place."""
        return self.many - 1 in self.leads_to[place]

    def is_solution(self, value):
        """Whether what plain() told is a SOLUTION: a SIDE that is led out of by nothing in it."""
        if not self.is_side(value):
            return False
        return all([goal in value for place in value for goal in self.leads_to[place]])

    def is_side(self, value):
        """Whether what plain() told is a SIDE."""
        return is_lot(value, self.many - 1) and 0 in value

    def is_thing(self, value):
        """Whether what plain() told is a place."""
        return is_number(value, 0, self.many - 1)

    def counts_at(self, solution):
        """Once each place of the SIDE."""
        return {place: 1 for place in solution}

    def has_turn(self, solution, turn):
        """Whether the TURN can be done at the SOLUTION."""
        if turn[0] in solution:
            return False
        return all([goal in solution or goal in turn for goal in self.leads_to[turn[0]]])

    def turns_at(self, solution):
        """All TURNS that can be done at the SOLUTION."""
        return [piece for piece in self.pieces if self.has_turn(solution, piece)]

    def after(self, solution, turn):
        """The SOLUTION to which a TURN that can be done leads."""
        return tuple(sorted(solution + turn))

    def has_done(self, solution, turn):
        """Whether the TURN is one of those that lead to the SOLUTION."""
        return turn[0] in solution


def are_pipes(value, places):
    """Whether what plain() told are PIPES between so many places."""
    if not isinstance(value, tuple) or len(value) > MOST_PIPES:
        return False
    if not all([_is_pipe(pipe, places) for pipe in value]):
        return False
    return is_ascending([pipe[:2] for pipe in value])


def _is_pipe(value, places):
    if not is_tuple_of(value, 3):
        return False
    start, goal, room = value
    if not is_number(start, 0, places - 1) or not is_number(goal, 0, places - 1) or start == goal:
        return False
    return is_number(room, 0, MOST_ROOM)


def net_world(world):
    """The WORLD of a net that plain() told; BadWorld."""
    if not is_tuple_of(world, 3):
        raise BadWorld("form")
    places, pipes = world[1:]
    if not is_number(places, 2, MOST_PLACES):
        raise BadWorld("places")
    if not are_pipes(pipes, places):
        raise BadWorld("pipes")
    return NetWorld(places, pipes)
