"""What 4, of main's instructions."""

from lanecode.fields import is_in_main, is_shared, named_in_main, others_are_zero
from lanecode.kinds import is_kind
from lanecode.limits import MAIN_PLACES
from lanecode.shapes import same_shape
from lanecode.shared_ops import shared_op_is_good

# The aux of tell and ask that has them name a slot.
OF_SLOT = 1
# The aux of skip with which it names no place.
WITHOUT_PLACE = 1


def cell_is_good(code, instruction):
    if instruction.aux >= len(code.slots) or instruction.dst >= MAIN_PLACES or instruction.a >= MAIN_PLACES:
        return False
    return instruction.a + len(code.slots[instruction.aux].lengths) <= MAIN_PLACES


def skip_is_good(instruction):
    if instruction.aux == WITHOUT_PLACE:
        return instruction.a == 0
    return instruction.aux == 0 and instruction.a < MAIN_PLACES


def told_is_good(code, instruction, told):
    """told: the field of a tell or an ask that is a place or a slot."""
    if instruction.aux == OF_SLOT:
        return instruction.kind == 0 and told < len(code.slots)
    return instruction.aux == 0 and is_kind(instruction.kind) and told < MAIN_PLACES


def copy_is_good(code, instruction):
    if max(instruction.dst, instruction.a) >= len(code.slots):
        return False
    return same_shape(code.slots[instruction.dst], code.slots[instruction.a])


def own_op_is_good(code, instruction):
    word = instruction.word
    if word == "cell":
        return cell_is_good(code, instruction)
    if word == "skip":
        return skip_is_good(instruction)
    if word == "loop" or word == "back":
        return instruction.dst < MAIN_PLACES
    if word == "call":
        return instruction.imm < len(code.calls)
    if word == "tell":
        return told_is_good(code, instruction, instruction.a)
    if word == "ask":
        return instruction.imm < len(code.names) and told_is_good(code, instruction, instruction.dst)
    if word == "copy":
        return copy_is_good(code, instruction)
    return word == "end" or word == "fail"


def main_instruction_is_good(code, instruction):
    if not is_in_main(instruction.word):
        return False
    if not others_are_zero(instruction, named_in_main(instruction.word)):
        return False
    if is_shared(instruction.word):
        return shared_op_is_good(instruction, MAIN_PLACES)
    return own_op_is_good(code, instruction)
