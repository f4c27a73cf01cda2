"""From code to the bytes that tell it."""

from lanecode.forms import BEGINNING, INSTRUCTION_WIDTHS
from lanecode.parts import bodies_of, eleven_numbers


def put_number(row, number, width):
    rest = number
    for step in range(width):
        row.append(rest & 255)
        rest = rest >> 8


def put_each(row, numbers, width):
    for number in numbers:
        put_number(row, number, width)


def put_shape(row, shape):
    row.append(shape.kind)
    row.append(len(shape.lengths))
    put_each(row, shape.lengths, 4)


def put_name(row, name):
    row.append(len(name))
    row.extend(name)


def put_result(row, result):
    put_shape(row, result.shape)
    row.append(result.joining)


def put_piece_head(row, piece):
    """All of a piece but its body, which the bytes tell far behind it."""
    row.append(len(piece.axes))
    put_each(row, piece.axes, 4)
    row.append(len(piece.inputs))
    for shape in piece.inputs:
        put_shape(row, shape)
    row.append(len(piece.results))
    for result in piece.results:
        put_result(row, result)
    put_number(row, piece.place, 4)
    row.append(piece.flag)
    put_number(row, len(piece.body), 4)


def put_hold(row, hold):
    row.append(hold.bank)
    put_number(row, hold.number, 2)


def put_call(row, call):
    row.extend([call.form, call.which, call.kind, len(call.operands), len(call.results)])
    put_each(row, (call.u, call.v), 8)
    for hold in call.operands + call.results:
        put_hold(row, hold)


def put_instruction(row, instruction):
    for number, width in zip(eleven_numbers(instruction) + [instruction.twelfth], INSTRUCTION_WIDTHS):
        put_number(row, number, width)


def put_counts(row, code):
    counts = (
        len(code.slots), code.data_slots, len(code.names), len(code.pieces), len(code.calls), len(code.main),
    )
    put_each(row, counts, 4)


def bytes_of_code(code):
    row = list(BEGINNING)
    put_counts(row, code)
    for shape in code.slots:
        put_shape(row, shape)
    for name in code.names:
        put_name(row, name)
    for piece in code.pieces:
        put_piece_head(row, piece)
    for call in code.calls:
        put_call(row, call)
    for body in bodies_of(code):
        for instruction in body:
            put_instruction(row, instruction)
    return row
