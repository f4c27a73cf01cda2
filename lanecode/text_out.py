"""From code to the text that tells it. The code is good: of other code a text can't tell all."""

from lanecode.forms import HEX_DIGITS, NUMBER_WORD, SLOT_WORD
from lanecode.parts import SLOT, eleven_numbers


def line_of_words(words):
    return " ".join(words) + "\n"


def line_of(word, numbers):
    return line_of_words([word] + [str(number) for number in numbers])


def name_line(name):
    digits = [HEX_DIGITS[byte // 16] + HEX_DIGITS[byte % 16] for byte in name]
    return line_of_words(["name", "".join(digits)])


def words_of_holds(holds):
    words = []
    for hold in holds:
        words.append(SLOT_WORD if hold.bank == SLOT else NUMBER_WORD)
        words.append(str(hold.number))
    return words


def call_line(call):
    head = [str(number) for number in [call.form, call.which, call.kind, call.u, call.v]]
    return line_of_words(["call"] + head + words_of_holds(call.operands) + [">"] + words_of_holds(call.results))


def instruction_line(instruction):
    return line_of(instruction.word, eleven_numbers(instruction)[1:])


def result_line(result):
    return line_of("result", [result.shape.kind, result.joining] + result.shape.lengths)


def lines_of_piece(piece):
    lines = [line_of("piece", [piece.place, piece.flag]), line_of("axes", piece.axes)]
    lines.extend([line_of("input", [shape.kind] + shape.lengths) for shape in piece.inputs])
    lines.extend([result_line(result) for result in piece.results])
    lines.extend([instruction_line(instruction) for instruction in piece.body])
    return lines


def lines_of_code(code):
    lines = [line_of("code", [code.data_slots])]
    lines.extend([line_of("slot", [shape.kind] + shape.lengths) for shape in code.slots])
    lines.extend([name_line(name) for name in code.names])
    lines.extend([call_line(call) for call in code.calls])
    lines.append(line_of("main", []))
    lines.extend([instruction_line(instruction) for instruction in code.main])
    for piece in code.pieces:
        lines.extend(lines_of_piece(piece))
    return lines


def text_of_code(code):
    """The text, as the list of its bytes."""
    return [ord(sign) for sign in "".join(lines_of_code(code))]
