"""What 3, of a function: what each function asks of its operands and its result.

Each rule is given the call, its operands' shapes and its result's shape, None standing for a number's place.
How many operands there are, that they are slots (but fill's), and that an unnamed u or v is 0 is asked before.
"""

from lanecode.holds import fits, slot_is_among, slot_shape
from lanecode.kinds import PLACES_KIND, TRUTH, is_kind
from lanecode.parts import Shape
from lanecode.shapes import cells_of, same_shape

FILL = 9
OPERANDS_OF = (1, 2, 1, 1, 1, 2, 1, 2, 1, 1, 0)
U_NAMED_BY = (0, 6, 7)
V_NAMED_BY = (0, 6)
FOLDS = (0, 2, 3)
FOLD_OF_ALL = 255


def is_slot(shape, kind, dimensions):
    return shape is not None and shape.kind == kind and len(shape.lengths) == dimensions


def is_slot_with_lengths(shape, kind):
    return shape is not None and shape.kind == kind and len(shape.lengths) > 0


def is_just(shape, kind, lengths):
    return shape is not None and same_shape(shape, Shape(kind, lengths))


def without(lengths, spot):
    return lengths[:spot] + lengths[spot + 1:]


def fold_is_good(call, operands, result):
    x = operands[0]
    if call.kind == TRUTH or not is_slot_with_lengths(x, call.kind) or call.u not in FOLDS:
        return False
    if call.v == FOLD_OF_ALL:
        return result is None
    return call.v < len(x.lengths) and fits(result, Shape(call.kind, without(x.lengths, call.v)))


def product_is_good(call, operands, result):
    x = operands[0]
    y = operands[1]
    if call.kind == TRUTH or not is_slot(x, call.kind, 2) or not is_slot(y, call.kind, 2):
        return False
    return x.lengths[1] == y.lengths[0] and is_just(result, call.kind, [x.lengths[0], y.lengths[1]])


def turn_is_good(call, operands, result):
    x = operands[0]
    return is_slot(x, call.kind, 2) and is_just(result, call.kind, [x.lengths[1], x.lengths[0]])


def sorted_is_good(call, operands, result):
    x = operands[0]
    return is_slot(x, call.kind, 1) and is_just(result, call.kind, x.lengths)


def order_is_good(call, operands, result):
    x = operands[0]
    return is_slot(x, call.kind, 1) and is_just(result, PLACES_KIND, x.lengths)


def pick_is_good(call, operands, result):
    x = operands[0]
    y = operands[1]
    if not is_slot_with_lengths(x, call.kind) or not is_slot(y, PLACES_KIND, 1):
        return False
    return is_just(result, call.kind, y.lengths + x.lengths[1:])


def part_is_good(call, operands, result):
    x = operands[0]
    if x.kind != call.kind or call.u >= len(x.lengths) or not is_slot(result, call.kind, len(x.lengths)):
        return False
    return without(result.lengths, call.u) == without(x.lengths, call.u)


def join_is_good(call, operands, result):
    x = operands[0]
    y = operands[1]
    if x.kind != call.kind or not is_slot(y, call.kind, len(x.lengths)) or call.u >= len(x.lengths):
        return False
    if without(x.lengths, call.u) != without(y.lengths, call.u):
        return False
    both = x.lengths[call.u] + y.lengths[call.u]
    return is_just(result, call.kind, x.lengths[:call.u] + [both] + x.lengths[call.u + 1:])


def as_is_good(call, operands, result):
    x = operands[0]
    if not is_slot_with_lengths(x, call.kind) or not is_slot_with_lengths(result, call.kind):
        return False
    return cells_of(x) == cells_of(result)


def fill_is_good(call, operands, result):
    return operands[0] is None and is_slot_with_lengths(result, call.kind)


def places_is_good(call, operands, result):
    return call.kind == PLACES_KIND and is_slot(result, PLACES_KIND, 1)


RULES = (
    fold_is_good, product_is_good, turn_is_good, sorted_is_good, order_is_good, pick_is_good,
    part_is_good, join_is_good, as_is_good, fill_is_good, places_is_good,
)


def unnamed_are_zero(call):
    return (call.u == 0 or call.which in U_NAMED_BY) and (call.v == 0 or call.which in V_NAMED_BY)


def operands_are_good(call, operands):
    if len(operands) != OPERANDS_OF[call.which]:
        return False
    return call.which == FILL or all([shape is not None for shape in operands])


def function_call_is_good(code, call):
    if not is_kind(call.kind) or call.which >= len(RULES) or len(call.results) != 1:
        return False
    if slot_is_among(call.results[0], call.operands) or not unnamed_are_zero(call):
        return False
    operands = [slot_shape(code, hold) for hold in call.operands]
    if not operands_are_good(call, operands):
        return False
    rule = RULES[call.which]
    return rule(call, operands, slot_shape(code, call.results[0]))
