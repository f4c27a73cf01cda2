"""The ops of instructions and their words; an op's number is its word's place in the row."""

OP_WORDS = (
    "end", "const", "place", "move", "two", "one", "fused", "mantissa", "convert", "compare",
    "isnan", "choose", "test", "masks", "cell", "store", "hand", "fail", "skip", "loop",
    "round", "back", "call", "tell", "ask", "copy", "function", "power", "draw",
)


def op_word(op):
    """The op's word; an empty text for a number that is no op's."""
    if op < len(OP_WORDS):
        return OP_WORDS[op]
    return ""


def is_op_word(word):
    return word in OP_WORDS


def op_number(word):
    return OP_WORDS.index(word)
