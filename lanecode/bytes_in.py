"""From bytes to the code that they tell."""

from lanecode.errors import NoBytes
from lanecode.forms import BEGINNING, INSTRUCTION_WIDTHS
from lanecode.limits import (
    MOST_AXES, MOST_CALLS, MOST_INPUTS, MOST_INSTRUCTIONS, MOST_LENGTHS, MOST_NAMES, MOST_OPERANDS, MOST_PIECES,
    MOST_RESULTS, MOST_SLOTS,
)
from lanecode.parts import Call, Code, Hold, Instruction, Piece, Result, Shape

# Where a piece's head keeps how many instructions its body has.
BODY_LENGTH = 5


class ByteReader:
    """A row of bytes, taken from its beginning on; it refuses to go behind its end."""

    def __init__(self, row):
        self.row = row
        self.spot = 0

    def take(self, width):
        if self.spot + width > len(self.row):
            raise NoBytes()
        number = 0
        for step in range(width):
            number = number + (self.row[self.spot + step] << (8 * step))
        self.spot = self.spot + width
        return number

    def take_up_to(self, width, most):
        number = self.take(width)
        if number > most:
            raise NoBytes()
        return number

    def take_list(self, length, width):
        return [self.take(width) for step in range(length)]

    def is_at_end(self):
        return self.spot == len(self.row)


def take_shape(reader):
    kind = reader.take(1)
    length = reader.take_up_to(1, MOST_LENGTHS)
    return Shape(kind, reader.take_list(length, 4))


def take_name(reader):
    length = reader.take(1)
    return reader.take_list(length, 1)


def take_result(reader):
    shape = take_shape(reader)
    joining = reader.take(1)
    return Result(shape, joining)


def take_piece_head(reader):
    """All of a piece but its body, which the bytes tell far behind it, and that body's length."""
    axis_count = reader.take_up_to(1, MOST_AXES)
    axes = reader.take_list(axis_count, 4)
    input_count = reader.take_up_to(1, MOST_INPUTS)
    inputs = [take_shape(reader) for step in range(input_count)]
    result_count = reader.take_up_to(1, MOST_RESULTS)
    results = [take_result(reader) for step in range(result_count)]
    place = reader.take(4)
    flag = reader.take_up_to(1, 1)
    body_length = reader.take_up_to(4, MOST_INSTRUCTIONS)
    return (axes, inputs, results, place, flag, body_length)


def take_piece_of(head, reader):
    body = take_instructions(reader, head[BODY_LENGTH])
    return Piece(head[0], head[1], head[2], head[3], head[4], body)


def take_hold(reader):
    bank = reader.take_up_to(1, 1)
    number = reader.take(2)
    return Hold(bank, number)


def take_call(reader):
    form = reader.take_up_to(1, 1)
    which = reader.take(1)
    kind = reader.take(1)
    operand_count = reader.take_up_to(1, MOST_OPERANDS)
    result_count = reader.take_up_to(1, MOST_RESULTS)
    u = reader.take(8)
    v = reader.take(8)
    operands = [take_hold(reader) for step in range(operand_count)]
    results = [take_hold(reader) for step in range(result_count)]
    return Call((form, which, kind, u, v), operands, results)


def take_instructions(reader, length):
    return [take_instruction(reader) for step in range(length)]


def take_instruction(reader):
    return Instruction([reader.take(width) for width in INSTRUCTION_WIDTHS])


def take_beginning(reader):
    for sign in BEGINNING:
        if reader.take(1) != sign:
            raise NoBytes()


def code_of_bytes(row):
    """The code that the bytes tell; NoBytes if they tell none."""
    reader = ByteReader(row)
    take_beginning(reader)
    slot_count = reader.take_up_to(4, MOST_SLOTS)
    data_slots = reader.take(4)
    name_count = reader.take_up_to(4, MOST_NAMES)
    piece_count = reader.take_up_to(4, MOST_PIECES)
    call_count = reader.take_up_to(4, MOST_CALLS)
    main_length = reader.take_up_to(4, MOST_INSTRUCTIONS)
    slots = [take_shape(reader) for step in range(slot_count)]
    names = [take_name(reader) for step in range(name_count)]
    heads = [take_piece_head(reader) for step in range(piece_count)]
    calls = [take_call(reader) for step in range(call_count)]
    if main_length + sum([head[BODY_LENGTH] for head in heads]) > MOST_INSTRUCTIONS:
        raise NoBytes()
    main = take_instructions(reader, main_length)
    pieces = [take_piece_of(head, reader) for head in heads]
    if not reader.is_at_end():
        raise NoBytes()
    return Code(data_slots, slots, names, pieces, calls, main)
