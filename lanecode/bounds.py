"""What 2: the bounds of slots, names and pieces."""

from lanecode.kinds import PLACES_KIND, TRUTH
from lanecode.limits import MOST_AXES, MOST_INPUTS, MOST_RESULTS
from lanecode.parts import Shape
from lanecode.shapes import bytes_of_slots, shape_may_be

MOST_NAME_BYTES = 32
MOST_JOIN = 2
MOST_SLOT_BYTES = 50331648


def name_is_good(name):
    return 1 <= len(name) <= MOST_NAME_BYTES and 0 not in name


def axes_are_good(axes):
    return 1 <= len(axes) <= MOST_AXES and shape_may_be(Shape(PLACES_KIND, axes))


def result_is_good(result):
    if not shape_may_be(result.shape):
        return False
    if len(result.shape.lengths) > 0:
        return result.joining == 0
    return result.joining <= MOST_JOIN and result.shape.kind != TRUTH


def piece_is_good(piece):
    if not axes_are_good(piece.axes) or len(piece.inputs) > MOST_INPUTS:
        return False
    if not all([shape_may_be(shape) for shape in piece.inputs]):
        return False
    if not 1 <= len(piece.results) <= MOST_RESULTS:
        return False
    return all([result_is_good(result) for result in piece.results])


def slots_are_within(code):
    return code.data_slots <= len(code.slots) and bytes_of_slots(code.slots) <= MOST_SLOT_BYTES


def wrong_bound(code):
    """The number of the first slot, else name, else piece that is wrong; None if none is."""
    for number, shape in enumerate(code.slots):
        if not shape_may_be(shape):
            return number
    for number, name in enumerate(code.names):
        if not name_is_good(name):
            return number
    for number, piece in enumerate(code.pieces):
        if not piece_is_good(piece):
            return number
    if not slots_are_within(code):
        return len(code.slots)
    return None
