"""From a text to the code that it tells."""

from lanecode.errors import NoText
from lanecode.forms import HEX_DIGITS, NUMBER_WORD, SLOT_WORD
from lanecode.limits import (
    FOUR_BYTES, MOST_AXES, MOST_CALLS, MOST_INPUTS, MOST_INSTRUCTIONS, MOST_LENGTHS, MOST_NAMES,
    MOST_OPERANDS, MOST_PIECES, MOST_RESULTS, MOST_SLOTS, ONE_BYTE, TWO_BYTES,
)
from lanecode.ops import is_op_word, op_number
from lanecode.parts import NUMBER, SLOT, Call, Code, Hold, Instruction, Piece, Result, Shape

# No text of code has other signs than these, so no other sign needs a place in a word.
SIGNS = "\n 0123456789>abcdefghijklmnopqrstuvwxyz"
# As many digits as the largest number of eight bytes has: no longer row of digits is made a number.
MOST_DIGITS = 20
CALL_HEAD_MOST = (1, 255, 255, 18446744073709551615, 18446744073709551615)
INSTRUCTION_MOST = (
    255, 255, 255, 65535, 65535, 65535, 65535, 4294967295, 18446744073709551615, 4294967295,
)


class LineReader:
    """The lines of a text, each a list of words, taken from the first on."""

    def __init__(self, lines):
        self.lines = lines
        self.spot = 0

    def is_at_end(self):
        return self.spot == len(self.lines)

    def first_word(self):
        """The first word of the line to come; an empty text where there is no line."""
        if self.is_at_end():
            return ""
        return self.lines[self.spot][0]

    def take_line(self, word):
        """The words behind the first one, which is to be word."""
        if self.first_word() != word:
            raise NoText()
        self.spot = self.spot + 1
        return self.lines[self.spot - 1][1:]

    def take_lines(self, word, most):
        """Of all lines to come that begin with word the words behind it."""
        taken = []
        while self.first_word() == word:
            taken.append(self.take_line(word))
        if len(taken) > most:
            raise NoText()
        return taken


def text_of(row):
    sign_of = dict([(ord(sign), sign) for sign in SIGNS])
    for byte in row:
        if byte not in sign_of:
            raise NoText()
    return "".join([sign_of[byte] for byte in row])


def lines_of(text):
    if not text.endswith("\n"):
        raise NoText()
    return [line.split(" ") for line in text.split("\n")[:-1]]


def number_of(word, most):
    if not word.isdigit() or len(word) > MOST_DIGITS:
        raise NoText()
    if word[0] == "0" and len(word) > 1:
        raise NoText()
    number = int(word)
    if number > most:
        raise NoText()
    return number


def numbers_of(words, most_of_each):
    """As many numbers as most_of_each has, none above its most."""
    if len(words) != len(most_of_each):
        raise NoText()
    return [number_of(word, most) for (word, most) in zip(words, most_of_each)]


def lengths_of(words, most_lengths):
    if len(words) > most_lengths:
        raise NoText()
    return [number_of(word, FOUR_BYTES) for word in words]


def shape_of(words):
    if len(words) == 0:
        raise NoText()
    return Shape(number_of(words[0], ONE_BYTE), lengths_of(words[1:], MOST_LENGTHS))


def result_of(words):
    if len(words) < 2:
        raise NoText()
    shape = shape_of(words[:1] + words[2:])
    return Result(shape, number_of(words[1], ONE_BYTE))


def name_of(words):
    if len(words) != 1:
        raise NoText()
    digits = [HEX_DIGITS.find(sign) for sign in words[0]]
    if len(digits) < 2 or len(digits) > 2 * ONE_BYTE or len(digits) % 2 != 0 or min(digits) < 0:
        raise NoText()
    return [16 * digits[spot] + digits[spot + 1] for spot in range(0, len(digits), 2)]


def hold_of(bank_word, number_word):
    number = number_of(number_word, TWO_BYTES)
    if bank_word == SLOT_WORD:
        return Hold(SLOT, number)
    if bank_word == NUMBER_WORD:
        return Hold(NUMBER, number)
    raise NoText()


def holds_of(words, most_holds):
    if len(words) % 2 != 0 or len(words) > 2 * most_holds:
        raise NoText()
    return [hold_of(words[spot], words[spot + 1]) for spot in range(0, len(words), 2)]


def call_of(words):
    head = numbers_of(words[:5], CALL_HEAD_MOST)
    if ">" not in words:
        raise NoText()
    middle = words.index(">")
    operands = holds_of(words[5:middle], MOST_OPERANDS)
    results = holds_of(words[middle + 1:], MOST_RESULTS)
    return Call(head, operands, results)


def take_instructions(reader):
    instructions = []
    while is_op_word(reader.first_word()):
        word = reader.first_word()
        numbers = numbers_of(reader.take_line(word), INSTRUCTION_MOST)
        instructions.append(Instruction([op_number(word)] + numbers + [0]))
    return instructions


def take_piece(reader):
    head = numbers_of(reader.take_line("piece"), (FOUR_BYTES, 1))
    axes = lengths_of(reader.take_line("axes"), MOST_AXES)
    inputs = [shape_of(words) for words in reader.take_lines("input", MOST_INPUTS)]
    results = [result_of(words) for words in reader.take_lines("result", MOST_RESULTS)]
    return Piece(axes, inputs, results, head[0], head[1], take_instructions(reader))


def take_pieces(reader):
    pieces = []
    while reader.first_word() == "piece":
        pieces.append(take_piece(reader))
    if len(pieces) > MOST_PIECES:
        raise NoText()
    return pieces


def code_of_text(row):
    """The code that the text tells; NoText if it tells none."""
    reader = LineReader(lines_of(text_of(row)))
    data_slots = numbers_of(reader.take_line("code"), (FOUR_BYTES,))[0]
    slots = [shape_of(words) for words in reader.take_lines("slot", MOST_SLOTS)]
    names = [name_of(words) for words in reader.take_lines("name", MOST_NAMES)]
    calls = [call_of(words) for words in reader.take_lines("call", MOST_CALLS)]
    if len(reader.take_line("main")) != 0:
        raise NoText()
    main = take_instructions(reader)
    pieces = take_pieces(reader)
    if not reader.is_at_end():
        raise NoText()
    if len(main) + sum([len(piece.body) for piece in pieces]) > MOST_INSTRUCTIONS:
        raise NoText()
    return Code(data_slots, slots, names, pieces, calls, main)
