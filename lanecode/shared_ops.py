"""What 4, of the ops that stand in main and in bodies alike."""

from lanecode.kinds import has_operation_of_one, has_operation_of_two, is_floating, is_kind

KINDLESS = ("move", "choose")
OF_ANY_KIND = ("const", "convert", "compare")
MOST_AUX = {"convert": 13, "compare": 7, "function": 8}
MOST_ONE_IMM = 3
WHOLE_DRAW_KIND = 8
MOST_DRAW_AUX = 3
DRAW_WITH_B = 1
# A draw names a and as many places behind it.
DRAW_BEHIND = 3


def places_are_there(instruction, places):
    """An unnamed field is 0, and so a place: all four may be asked."""
    return max(instruction.dst, instruction.a, instruction.b, instruction.c) < places


def draw_is_good(instruction, places):
    if instruction.a + DRAW_BEHIND >= places or instruction.aux > MOST_DRAW_AUX:
        return False
    if instruction.aux != DRAW_WITH_B and instruction.b != 0:
        return False
    if instruction.aux <= DRAW_WITH_B:
        return instruction.kind == WHOLE_DRAW_KIND
    return is_floating(instruction.kind)


def kind_is_good(instruction):
    if instruction.word in KINDLESS:
        return True
    if instruction.word in OF_ANY_KIND:
        return is_kind(instruction.kind)
    return is_floating(instruction.kind)


def shared_op_is_good(instruction, places):
    """places: how many there are, in main or in a body."""
    if not places_are_there(instruction, places):
        return False
    if instruction.word == "draw":
        return draw_is_good(instruction, places)
    if instruction.word == "two":
        return has_operation_of_two(instruction.kind, instruction.aux)
    if instruction.word == "one":
        return has_operation_of_one(instruction.kind, instruction.aux) and instruction.imm <= MOST_ONE_IMM
    return kind_is_good(instruction) and instruction.aux <= MOST_AUX.get(instruction.word, 0)
