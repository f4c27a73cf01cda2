"""Holds: which are there, what they hold, and which shapes they fit."""

from lanecode.limits import MAIN_PLACES
from lanecode.parts import SLOT
from lanecode.shapes import same_shape


def hold_is_there(code, hold):
    if hold.bank == SLOT:
        return hold.number < len(code.slots)
    return hold.number < MAIN_PLACES


def slot_shape(code, hold):
    """The shape of the slot; None of a number's place, which has none."""
    if hold.bank == SLOT:
        return code.slots[hold.number]
    return None


def fits(held, shape):
    """held: what slot_shape tells of a hold."""
    if len(shape.lengths) == 0:
        return held is None
    return held is not None and same_shape(held, shape)


def same_hold(one, other):
    return one.bank == other.bank and one.number == other.number


def is_among(hold, holds):
    return any([same_hold(hold, other) for other in holds])


def slot_is_among(hold, holds):
    return hold.bank == SLOT and is_among(hold, holds)
