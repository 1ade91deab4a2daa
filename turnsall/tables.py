"""WORLDS as they are passed, of any kind, and their TURNS in their turn."""

from turnsall.closures import bare_by
from turnsall.errors import BadSolution, BadTurn, BadWorld, TooMany
from turnsall.floorworlds import floor_world
from turnsall.kinds import is_number, plain
from turnsall.networlds import net_world
from turnsall.pairworlds import pair_world
from turnsall.planworlds import plan_world
from turnsall.streetworlds import street_world

MOST_TURNS = 20


class TurnTable:
    """The TURNS of a WORLD by their numbers, and what hangs on these.

    The WORLD is one of the classes of pairs, streets, plans, floors and nets.
    """

    def __init__(self, frame):
        self.frame = frame
        self.turns = []
        state = frame.first_state()
        ready = frame.turns_at(state)
        while ready:
            if len(self.turns) == MOST_TURNS:
                raise TooMany(MOST_TURNS)
            turn = min(ready)
            self.turns.append(turn)
            state = frame.after(state, turn)
            ready = frame.turns_at(state)
        self.greatest = frame.told(state)

    def bare_order(self):
        """The ORDER of the WORLD."""
        ahead = [0] * len(self.turns)
        for number in range(len(self.turns)):
            for other in self._missed_without(number):
                ahead[other] |= 1 << number
        return bare_by(ahead)

    def _missed_without(self, number):
        """The numbers of the other TURNS that no row of TURNS without this one leads to."""
        state = self.frame.first_state()
        missed = []
        # What is ahead of a TURN has a lesser number, so to go through them once is enough.
        for other, turn in enumerate(self.turns):
            if other == number:
                continue
            if self.frame.has_turn(state, turn):
                state = self.frame.after(state, turn)
            else:
                missed.append(other)
        return missed

    def lower_at(self, solution):
        """The LOWER of the SOLUTION."""
        state = self.frame.state_of(solution)
        return tuple([number for number, turn in enumerate(self.turns) if self.frame.has_done(state, turn)])

    def solution_at(self, lower):
        """The SOLUTION with the LOWER."""
        state = self.frame.first_state()
        for number in lower:
            state = self.frame.after(state, self.turns[number])
        return self.frame.told(state)

    def all_done(self):
        """The SOLUTIONS from the LEAST to the GREATEST one, each but the first by the TURN with the next number."""
        state = self.frame.first_state()
        found = [self.frame.told(state)]
        for turn in self.turns:
            state = self.frame.after(state, turn)
            found.append(self.frame.told(state))
        return found

    def ready_at(self, solution):
        """The ascending tuple of the numbers of the TURNS that can be done at the SOLUTION."""
        ready = self.frame.turns_at(self.frame.state_of(solution))
        return tuple([number for number, turn in enumerate(self.turns) if turn in ready])

    def turned_at(self, solution, number):
        """The SOLUTION to which a TURN leads that can be done."""
        return self.frame.told(self.frame.after(self.frame.state_of(solution), self.turns[number]))

    def wanted_solution(self, thing):
        """The SOLUTION; BadSolution."""
        solution = plain(thing)
        if not self.frame.is_solution(solution):
            raise BadSolution(thing)
        return solution

    def wanted_turn(self, thing):
        """The number of a TURN; BadTurn."""
        number = plain(thing)
        if not is_number(number, 0, len(self.turns) - 1):
            raise BadTurn(thing)
        return number


def _frame_of(thing):
    """What the WORLD is, by its word; BadWorld."""
    world = plain(thing)
    if not isinstance(world, tuple) or not world:
        raise BadWorld("form")
    word = world[0]
    if word == "pairs":
        return pair_world(world)
    if word == "streets":
        return street_world(world)
    if word == "plan":
        return plan_world(world)
    if word == "floor":
        return floor_world(world)
    if word == "net":
        return net_world(world)
    raise BadWorld("form")


def table_of(thing):
    """The table of a WORLD of any word; BadWorld, TooMany(20)."""
    return TurnTable(_frame_of(thing))


def table_of_word(thing, word):
    """The table of a WORLD of this word; BadWorld, TooMany(20)."""
    frame = _frame_of(thing)
    if frame.word != word:
        raise BadWorld("word")
    return TurnTable(frame)
