"""Arguments about FIELDS, of any kind: each is told as a plain one, or refused."""

from turnsall.errors import BadBlock, BadField, BadLaying
from turnsall.fields import is_field, is_laying_of
from turnsall.floorworlds import squares_of
from turnsall.kinds import plain


def wanted_field(thing):
    """The FIELD; BadField."""
    field = plain(thing)
    if not is_field(field):
        raise BadField(thing)
    return field


def wanted_laying(field, thing):
    """The LAYING; BadLaying."""
    laying = plain(thing)
    if not is_laying_of(field, laying):
        raise BadLaying(thing)
    return laying


def wanted_block(field, thing):
    """The BLOCK; BadBlock."""
    block = plain(thing)
    if block not in squares_of(field):
        raise BadBlock(thing)
    return block
