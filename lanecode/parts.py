"""What code is made of. Nothing here is judged: wrong code has the same parts as good code."""

from lanecode.ops import op_word

# A call's form and a hold's bank, as the bytes and the text number them.
OF_PIECE = 0
SLOT = 0
NUMBER = 1


class Shape:
    def __init__(self, kind, lengths):
        self.kind = kind
        self.lengths = lengths


class Result:
    """A piece's result: its shape, and the number of its join."""

    def __init__(self, shape, joining):
        self.shape = shape
        self.joining = joining


class Hold:
    def __init__(self, bank, number):
        self.bank = bank
        self.number = number


class Call:
    def __init__(self, head, operands, results):
        """head: form, which, kind, u, v."""
        self.form = head[0]
        self.which = head[1]
        self.kind = head[2]
        self.u = head[3]
        self.v = head[4]
        self.operands = operands
        self.results = results


class Instruction:
    def __init__(self, numbers):
        """numbers: the twelve, in the order of the bytes."""
        self.op = numbers[0]
        self.kind = numbers[1]
        self.mask = numbers[2]
        self.aux = numbers[3]
        self.dst = numbers[4]
        self.a = numbers[5]
        self.b = numbers[6]
        self.c = numbers[7]
        self.where = numbers[8]
        self.imm = numbers[9]
        self.to = numbers[10]
        self.twelfth = numbers[11]
        self.word = op_word(self.op)


class Piece:
    def __init__(self, axes, inputs, results, place, flag, body):
        self.axes = axes
        self.inputs = inputs
        self.results = results
        self.place = place
        self.flag = flag
        self.body = body


class Code:
    def __init__(self, data_slots, slots, names, pieces, calls, main):
        """data_slots: how many of the first slots hold data (the document's d)."""
        self.data_slots = data_slots
        self.slots = slots
        self.names = names
        self.pieces = pieces
        self.calls = calls
        self.main = main


def eleven_numbers(instruction):
    return [
        instruction.op, instruction.kind, instruction.mask, instruction.aux,
        instruction.dst, instruction.a, instruction.b, instruction.c,
        instruction.where, instruction.imm, instruction.to,
    ]


def bodies_of(code):
    """Main's instructions and each piece's, in the order in which they are numbered through."""
    return [code.main] + [piece.body for piece in code.pieces]
