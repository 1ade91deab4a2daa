"""What WORLDS of all words have in common."""


class WorldFrame:
    """A WORLD whose TURNS are done from state to state: at the SOLUTIONS themselves, if its class says nothing else.

    Each class has the attributes word and least, the LEAST SOLUTION, and the methods is_solution, turns_at, has_turn,
    after and has_done; all but the first one take states. For WEIGHTS it has is_thing, and counts_at: the dict that
    tells of a SOLUTION how often each THING counts; those that are not in it do not.
    """

    def first_state(self):
        """The state of the LEAST SOLUTION."""
        return self.least

    def state_of(self, solution):
        """The state of the SOLUTION."""
        return solution

    def told(self, state):
        """The SOLUTION with this state."""
        return state
