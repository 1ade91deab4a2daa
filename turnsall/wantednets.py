"""Arguments about WORLDS of nets, of any kind: each is told as a plain one, or refused."""

from turnsall.errors import BadFlow, BadPipe, BadPlace, BadRoom, BadSide
from turnsall.kinds import is_number, plain
from turnsall.netflows import is_flow_of
from turnsall.networlds import MOST_ROOM


def wanted_side(frame, thing):
    """The SIDE; BadSide."""
    side = plain(thing)
    if not frame.is_side(side):
        raise BadSide(thing)
    return side


def wanted_flow(frame, thing):
    """The FLOW; BadFlow."""
    flow = plain(thing)
    if not is_flow_of(frame.many, frame.pipes, flow):
        raise BadFlow(thing)
    return flow


def wanted_place(frame, thing):
    """The place; BadPlace."""
    place = plain(thing)
    if not is_number(place, 0, frame.many - 1):
        raise BadPlace(thing)
    return place


def wanted_pipe(frame, thing):
    """The number of the pipe; BadPipe."""
    pipe = plain(thing)
    if not is_number(pipe, 0, len(frame.pipes) - 1):
        raise BadPipe(thing)
    return pipe


def wanted_room(thing):
    """The ROOM; BadRoom."""
    room = plain(thing)
    if not is_number(room, 0, MOST_ROOM):
        raise BadRoom(thing)
    return room
