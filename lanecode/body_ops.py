"""What 4, of the instructions of pieces' bodies."""

from lanecode.fields import is_in_bodies, is_shared, named_in_bodies, others_are_zero
from lanecode.kinds import TRUTH
from lanecode.limits import BODY_PLACES
from lanecode.shared_ops import shared_op_is_good

MOST_MASK = 63
MOST_MASKS_AUX = 15
MOST_STORE_C = 3
ASKING_NO_MORE = ("end", "fail", "skip", "loop", "round", "back")


def row_is_there(first, lengths):
    """A row of places, one for each length, from first on; first is a place even if the row is empty."""
    return first < BODY_PLACES and first + len(lengths) <= BODY_PLACES


def is_own_mask(number):
    """Mask 0 is not made by any instruction."""
    return 1 <= number <= MOST_MASK


def masks_is_good(instruction):
    if instruction.aux > MOST_MASKS_AUX or not is_own_mask(instruction.dst):
        return False
    return max(instruction.a, instruction.b) <= MOST_MASK


def cell_is_good(piece, instruction):
    if instruction.aux >= len(piece.inputs) or instruction.dst >= BODY_PLACES:
        return False
    return row_is_there(instruction.a, piece.inputs[instruction.aux].lengths)


def store_is_good(piece, instruction):
    if instruction.aux >= len(piece.results) or instruction.b >= BODY_PLACES or instruction.c > MOST_STORE_C:
        return False
    shape = piece.results[instruction.aux].shape
    if len(shape.lengths) == 0 or not row_is_there(instruction.a, shape.lengths):
        return False
    return instruction.c == 0 or shape.kind != TRUTH


def hand_is_good(piece, instruction):
    if instruction.aux >= len(piece.results) or instruction.a >= BODY_PLACES:
        return False
    return len(piece.results[instruction.aux].shape.lengths) == 0


def own_op_is_good(piece, instruction):
    word = instruction.word
    if word == "place":
        return instruction.dst < BODY_PLACES and instruction.a < len(piece.axes)
    if word == "test":
        return is_own_mask(instruction.dst) and instruction.a < BODY_PLACES
    if word == "masks":
        return masks_is_good(instruction)
    if word == "cell":
        return cell_is_good(piece, instruction)
    if word == "store":
        return store_is_good(piece, instruction)
    if word == "hand":
        return hand_is_good(piece, instruction)
    return word in ASKING_NO_MORE


def body_instruction_is_good(piece, instruction):
    if not is_in_bodies(instruction.word):
        return False
    if instruction.mask > MOST_MASK or not others_are_zero(instruction, named_in_bodies(instruction.word)):
        return False
    if is_shared(instruction.word):
        return shared_op_is_good(instruction, BODY_PLACES)
    return own_op_is_good(piece, instruction)
