"""WORLDS of nets: pipes that go out of some or of all SOLUTIONS, and what other ROOMS make of the least WIDTH."""

from turnsall.netflows import greatest_flow, sum_of_flow
from turnsall.tables import table_of_word
from turnsall.wantednets import wanted_pipe, wanted_room

# More than 200 ROOMS of 100 are together.
ENDLESS = 20001


def out_of_some(world):
    """The numbers of the pipes that go out of some SOLUTION, ascending."""
    frame = table_of_word(world, "net").frame
    return tuple([pipe for pipe, (start, goal, _) in enumerate(frame.pipes) if _is_out_of_some(frame, start, goal)])


def _is_out_of_some(frame, start, goal):
    if frame.is_never_in(start) or goal in frame.leads_to[start]:
        return False
    return goal not in frame.least


def out_of_all(world):
    """The numbers of the pipes that go out of all SOLUTIONS, ascending."""
    frame = table_of_word(world, "net").frame
    return tuple([
        pipe for pipe, (start, goal, _) in enumerate(frame.pipes)
        if start in frame.least and frame.is_never_in(goal)
    ])


def with_room(world, pipe, room):
    """The WORLD with this ROOM for the pipe."""
    frame = table_of_word(world, "net").frame
    pipe = wanted_pipe(frame, pipe)
    return ("net", frame.many, _with(frame.pipes, pipe, wanted_room(room)))


def room_line(world, pipe):
    """The pair (A, B): with ROOM R for the pipe the least WIDTH is the lesser of A + R and B."""
    frame = table_of_word(world, "net").frame
    pipe = wanted_pipe(frame, pipe)
    return (_least_across(frame, pipe), _least_else(frame, pipe))


def _least_across(frame, pipe):
    """The least WIDTH of SIDES out of which the pipe goes, without its ROOM; None if there is none."""
    start, goal, _ = frame.pipes[pipe]
    last = frame.many - 1
    if start == last or goal == 0:
        return None
    pipes = _with(frame.pipes, pipe, 0)
    # No SIDE of a lesser WIDTH has not the one place, or has the other one.
    if start != 0:
        pipes += ((0, start, ENDLESS),)
    if goal != last:
        pipes += ((goal, last, ENDLESS),)
    return _least_width(frame.many, pipes)


def _least_else(frame, pipe):
    """The least WIDTH of SIDES out of which the pipe does not go; None if there is none."""
    start, goal, _ = frame.pipes[pipe]
    if start == 0 and goal == frame.many - 1:
        return None
    return _least_width(frame.many, _with(frame.pipes, pipe, ENDLESS))


def _with(pipes, number, room):
    """The PIPES with this room for one of them."""
    return tuple([pipe[:2] + (room,) if spot == number else pipe for spot, pipe in enumerate(pipes)])


def _least_width(places, pipes):
    return sum_of_flow(pipes, greatest_flow(places, pipes))
