"""Whether two codes are the same but for where, pieces' places and names.

Each code is made one plain list of all that counts: two codes are the same if their lists are.
"""

from lanecode.parts import eleven_numbers

# Where an instruction's eleven numbers have where and imm.
WHERE = 8
IMM = 9


def plain_shape(shape):
    return [shape.kind] + shape.lengths


def plain_result(result):
    return [result.joining] + plain_shape(result.shape)


def plain_holds(holds):
    return [[hold.bank, hold.number] for hold in holds]


def plain_call(call):
    head = [call.form, call.which, call.kind, call.u, call.v]
    return [head, plain_holds(call.operands), plain_holds(call.results)]


def plain_instruction(instruction):
    numbers = eleven_numbers(instruction)
    numbers[WHERE] = 0
    return numbers


def plain_main_instruction(code, instruction):
    plain = plain_instruction(instruction)
    # The same name may have another number in another code: its bytes stand for it.
    if instruction.word == "ask":
        plain[IMM] = code.names[instruction.imm]
    return plain


def plain_piece(piece):
    return [
        piece.axes, [plain_shape(shape) for shape in piece.inputs], [plain_result(result) for result in piece.results],
        piece.flag, [plain_instruction(instruction) for instruction in piece.body],
    ]


def plain_code(code):
    return [
        code.data_slots, [plain_shape(shape) for shape in code.slots], [plain_piece(piece) for piece in code.pieces],
        [plain_call(call) for call in code.calls],
        [plain_main_instruction(code, instruction) for instruction in code.main],
    ]


def are_same(one, other):
    return plain_code(one) == plain_code(other)
