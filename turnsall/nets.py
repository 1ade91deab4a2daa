"""WORLDS of nets: WIDTHS, and PAPERS on the least one."""

from turnsall.errors import BadPaper
from turnsall.kinds import is_tuple_of, plain
from turnsall.netflows import is_flow_of, sum_of_flow, width_by
from turnsall.tables import table_of_word
from turnsall.wantednets import wanted_side


def width_of(world, side):
    """The WIDTH of the SIDE."""
    frame = table_of_word(world, "net").frame
    return width_by(frame.pipes, wanted_side(frame, side))


def least_width(world):
    """The least WIDTH."""
    frame = table_of_word(world, "net").frame
    return width_by(frame.pipes, frame.least)


def net_paper(world):
    """A PAPER on the least WIDTH."""
    frame = table_of_word(world, "net").frame
    return (frame.least, frame.flow)


def check_net(world, paper):
    """The least WIDTH, by a PAPER that holds; BadPaper of any other value."""
    frame = table_of_word(world, "net").frame
    paper = plain(paper)
    if not is_tuple_of(paper, 2):
        raise BadPaper("form")
    side, flow = paper
    if not frame.is_side(side):
        raise BadPaper("side")
    if not is_flow_of(frame.many, frame.pipes, flow):
        raise BadPaper("flow")
    width = width_by(frame.pipes, side)
    if sum_of_flow(frame.pipes, flow) != width:
        raise BadPaper("sum")
    return width
