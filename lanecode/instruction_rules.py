"""What 4: instructions, each by itself."""

from lanecode.body_ops import body_instruction_is_good
from lanecode.main_ops import main_instruction_is_good


def wrong_instruction(code):
    """The first wrong instruction, numbered through; None if none is wrong."""
    for number, instruction in enumerate(code.main):
        if not main_instruction_is_good(code, instruction):
            return number
    first = len(code.main)
    for piece in code.pieces:
        for place, instruction in enumerate(piece.body):
            if not body_instruction_is_good(piece, instruction):
                return first + place
        first = first + len(piece.body)
    return None
