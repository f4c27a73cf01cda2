"""How many calls and how many of main's instructions name a slot."""

from lanecode.holds import is_among
from lanecode.main_ops import OF_SLOT
from lanecode.parts import SLOT, Hold


def slots_named_by(instruction):
    """The slots that one of main's instructions names by itself; a call's are told by the call that it makes."""
    if instruction.word == "cell":
        return [instruction.aux]
    if instruction.word == "tell" and instruction.aux == OF_SLOT:
        return [instruction.a]
    if instruction.word == "ask" and instruction.aux == OF_SLOT:
        return [instruction.dst]
    if instruction.word == "copy":
        return [instruction.a, instruction.dst]
    return []


def uses_of_slot(code, number):
    hold = Hold(SLOT, number)
    calls = [call for call in code.calls if is_among(hold, call.operands + call.results)]
    instructions = [instruction for instruction in code.main if number in slots_named_by(instruction)]
    return len(calls) + len(instructions)
