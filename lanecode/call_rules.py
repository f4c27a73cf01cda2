"""What 3: calls."""

from lanecode.function_rules import function_call_is_good
from lanecode.holds import fits, hold_is_there, is_among, slot_is_among, slot_shape
from lanecode.parts import OF_PIECE


def all_fit(code, holds, shapes):
    if len(holds) != len(shapes):
        return False
    return all([fits(slot_shape(code, hold), shape) for hold, shape in zip(holds, shapes)])


def results_are_apart(call):
    for spot, hold in enumerate(call.results):
        if is_among(hold, call.results[:spot]) or slot_is_among(hold, call.operands):
            return False
    return True


def piece_call_is_good(code, call):
    if call.which >= len(code.pieces) or call.kind != 0 or call.u != 0 or call.v != 0:
        return False
    piece = code.pieces[call.which]
    if not all_fit(code, call.operands, piece.inputs):
        return False
    if not all_fit(code, call.results, [result.shape for result in piece.results]):
        return False
    return results_are_apart(call)


def call_is_good(code, call):
    if not all([hold_is_there(code, hold) for hold in call.operands + call.results]):
        return False
    if call.form == OF_PIECE:
        return piece_call_is_good(code, call)
    return function_call_is_good(code, call)


def wrong_call(code):
    """The first wrong call's number; None if none is wrong."""
    for number, call in enumerate(code.calls):
        if not call_is_good(code, call):
            return number
    return None
