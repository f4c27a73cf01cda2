"""Shapes: which may be, which are the same, and how many cells and bytes they have."""

from lanecode.kinds import CELL_BYTES, is_kind
from lanecode.limits import MOST_LENGTHS

MOST_CELLS = 1048576
SLOT_STEP = 64


def cells_of(shape):
    cells = 1
    for length in shape.lengths:
        cells = cells * length
    return cells


def shape_may_be(shape):
    if not is_kind(shape.kind) or len(shape.lengths) > MOST_LENGTHS:
        return False
    # A length of 0 makes the product 0, so each length is asked by itself too.
    for length in shape.lengths:
        if length > MOST_CELLS:
            return False
    return cells_of(shape) <= MOST_CELLS


def same_shape(one, other):
    return one.kind == other.kind and one.lengths == other.lengths


def slot_bytes(shape):
    steps = (cells_of(shape) * CELL_BYTES[shape.kind] + SLOT_STEP - 1) // SLOT_STEP
    return steps * SLOT_STEP


def bytes_of_slots(slots):
    return sum([slot_bytes(shape) for shape in slots])
