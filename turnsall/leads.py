"""WORLDS of nets: FLOWS, what leads where by them, and PIECES."""

from turnsall.netflows import leads_by, sum_of_flow
from turnsall.tables import table_of_word
from turnsall.wantednets import wanted_flow, wanted_place


def flow_sum(world, flow):
    """The SUM of the FLOW."""
    frame = table_of_word(world, "net").frame
    return sum_of_flow(frame.pipes, wanted_flow(frame, flow))


def does_lead(world, flow, place, far):
    """Whether place leads to far by the FLOW."""
    frame = table_of_word(world, "net").frame
    flow = wanted_flow(frame, flow)
    place = wanted_place(frame, place)
    far = wanted_place(frame, far)
    return far in leads_by(frame.many, frame.pipes, flow)[place]


def always_in(world):
    """The places that all SOLUTIONS have, ascending."""
    return table_of_word(world, "net").frame.least


def never_in(world):
    """The places that no SOLUTION has, ascending."""
    frame = table_of_word(world, "net").frame
    return tuple([place for place in range(frame.many) if frame.is_never_in(place)])


def pieces(world):
    """All PIECES, by the least place of each."""
    return table_of_word(world, "net").frame.pieces


def piece_ahead(world, place):
    """The places that all SOLUTIONS have that have this one, ascending; None of one that is never in."""
    frame = table_of_word(world, "net").frame
    place = wanted_place(frame, place)
    if frame.is_never_in(place):
        return None
    return tuple([each for each in range(frame.many) if each in frame.least or each in frame.leads_to[place]])
