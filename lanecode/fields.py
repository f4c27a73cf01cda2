"""Which fields an op names. A field that an op names only with some aux is named here; the op's rule asks the rest."""

SHARED_FIELDS = {
    "const": ("kind", "dst", "imm"),
    "move": ("dst", "a"),
    "two": ("kind", "aux", "dst", "a", "b"),
    "one": ("kind", "aux", "dst", "a", "imm"),
    "fused": ("kind", "dst", "a", "b", "c"),
    "mantissa": ("kind", "dst", "a"),
    "convert": ("kind", "aux", "dst", "a"),
    "compare": ("kind", "aux", "dst", "a", "b"),
    "isnan": ("kind", "dst", "a"),
    "choose": ("dst", "a", "b", "c"),
    "function": ("kind", "aux", "dst", "a"),
    "power": ("kind", "dst", "a", "b"),
    "draw": ("kind", "aux", "dst", "a", "b"),
}

BODY_FIELDS = {
    "end": (),
    "place": ("mask", "dst", "a"),
    "test": ("mask", "dst", "a"),
    "masks": ("aux", "dst", "a", "b"),
    "cell": ("mask", "aux", "dst", "a"),
    "store": ("mask", "aux", "a", "b", "c"),
    "hand": ("mask", "aux", "a"),
    "fail": ("mask", "imm"),
    "skip": ("mask", "to"),
    "loop": (),
    "round": ("mask", "imm", "to"),
    "back": ("to",),
}

MAIN_FIELDS = {
    "end": (),
    "cell": ("aux", "dst", "a"),
    "fail": ("imm",),
    "skip": ("aux", "a", "to"),
    "loop": ("dst", "imm", "to"),
    "back": ("dst", "imm", "to"),
    "call": ("imm",),
    "tell": ("kind", "aux", "a"),
    "ask": ("kind", "aux", "dst", "imm"),
    "copy": ("dst", "a"),
}


def is_shared(word):
    return word in SHARED_FIELDS


def is_in_main(word):
    return word in SHARED_FIELDS or word in MAIN_FIELDS


def is_in_bodies(word):
    return word in SHARED_FIELDS or word in BODY_FIELDS


def named_in_main(word):
    if is_shared(word):
        return SHARED_FIELDS[word]
    return MAIN_FIELDS[word]


def named_in_bodies(word):
    if is_shared(word):
        return SHARED_FIELDS[word] + ("mask",)
    return BODY_FIELDS[word]


def fields_of(instruction):
    """All fields that an op may name, each with its number; where is no such field."""
    return [
        ("kind", instruction.kind), ("mask", instruction.mask), ("aux", instruction.aux),
        ("dst", instruction.dst), ("a", instruction.a), ("b", instruction.b), ("c", instruction.c),
        ("imm", instruction.imm), ("to", instruction.to),
    ]


def others_are_zero(instruction, named):
    for field, number in fields_of(instruction):
        if number != 0 and field not in named:
            return False
    return instruction.twelfth == 0
