"""Code for tests, told by plain dicts, and made bytes and text of without the program's help."""

from lanecode.judge import answers

WORDS = (
    "end const place move two one fused mantissa convert compare isnan choose test masks cell store hand fail "
    "skip loop round back call tell ask copy function power draw"
).split()
FIELDS = ("kind", "mask", "aux", "dst", "a", "b", "c", "where", "imm", "to")
WIDTHS = {"kind": 1, "mask": 1, "aux": 1, "dst": 2, "a": 2, "b": 2, "c": 2, "where": 4, "imm": 8, "to": 4}
MAIN_ONLY = ("call", "tell", "ask", "copy")
BODY_ONLY = ("place", "test", "masks", "store", "hand", "round")


def ins(op, twelfth=0, **fields):
    """An instruction; op is a word or a number."""
    number = WORDS.index(op) if isinstance(op, str) else op
    unknown = set(fields) - set(FIELDS)
    if unknown:
        raise ValueError(f"no such fields: {unknown}")
    return dict({field: fields.get(field, 0) for field in FIELDS}, op=number, twelfth=twelfth)


END = ins("end")


def shape(kind, *lengths):
    return (kind, list(lengths))


def piece(axes=(4,), inputs=(), results=((9, [4], 0),), place=0, flag=0, body=(END,)):
    """results: kind, lengths, join each."""
    return dict(axes=list(axes), inputs=list(inputs), results=list(results), place=place, flag=flag, body=list(body))


def call(sort, which, kind=0, u=0, v=0, operands="", results=""):
    """operands, results: texts like "s0 n3"."""
    return dict(sort=sort, which=which, kind=kind, u=u, v=v, operands=holds(operands), results=holds(results))


def holds(words):
    return [("sn".index(word[0]), int(word[1:])) for word in words.split()]


def code(d=0, slots=(), names=(), pieces=(), calls=(), main=(END,)):
    return dict(d=d, slots=list(slots), names=[list(name) for name in names], pieces=list(pieces),
                calls=list(calls), main=list(main))


def low_first(number, width):
    return list(number.to_bytes(width, "little"))


def bytes_of_shape(told):
    kind, lengths = told
    return [kind, len(lengths)] + sum([low_first(length, 4) for length in lengths], [])


def bytes_of_piece(told):
    row = [len(told["axes"])] + sum([low_first(axis, 4) for axis in told["axes"]], [])
    row += [len(told["inputs"])] + sum([bytes_of_shape(one) for one in told["inputs"]], [])
    row += [len(told["results"])]
    for kind, lengths, join in told["results"]:
        row += bytes_of_shape((kind, lengths)) + [join]
    return row + low_first(told["place"], 4) + [told["flag"]] + low_first(len(told["body"]), 4)


def bytes_of_call(told):
    row = [told["sort"], told["which"], told["kind"], len(told["operands"]), len(told["results"])]
    row += low_first(told["u"], 8) + low_first(told["v"], 8)
    for bank, number in told["operands"] + told["results"]:
        row += [bank] + low_first(number, 2)
    return row


def bytes_of_instruction(told):
    row = [told["op"]]
    for field in FIELDS:
        row += low_first(told[field], WIDTHS[field])
    return row + low_first(told["twelfth"], 4)


def to_bytes(told):
    row = [76, 87, 67, 49]
    for number in (len(told["slots"]), told["d"], len(told["names"]), len(told["pieces"]), len(told["calls"]),
                   len(told["main"])):
        row += low_first(number, 4)
    for one in told["slots"]:
        row += bytes_of_shape(one)
    for name in told["names"]:
        row += [len(name)] + name
    for one in told["pieces"]:
        row += bytes_of_piece(one)
    for one in told["calls"]:
        row += bytes_of_call(one)
    for body in bodies_of(told):
        for one in body:
            row += bytes_of_instruction(one)
    return row


def line(*words):
    return " ".join([str(word) for word in words]) + "\n"


def hold_words(told):
    return [word for bank, number in told for word in ("sn"[bank], number)]


def text_of_body(body):
    return "".join([line(WORDS[one["op"]], *[one[field] for field in FIELDS]) for one in body])


def to_text(told):
    text = line("code", told["d"])
    for kind, lengths in told["slots"]:
        text += line("slot", kind, *lengths)
    for name in told["names"]:
        text += line("name", "".join([f"{byte:02x}" for byte in name]))
    for one in told["calls"]:
        head = [one[field] for field in ("sort", "which", "kind", "u", "v")]
        text += line("call", *head, *hold_words(one["operands"]), ">", *hold_words(one["results"]))
    text += line("main") + text_of_body(told["main"])
    for one in told["pieces"]:
        text += line("piece", one["place"], one["flag"]) + line("axes", *one["axes"])
        for kind, lengths in one["inputs"]:
            text += line("input", kind, *lengths)
        for kind, lengths, join in one["results"]:
            text += line("result", kind, join, *lengths)
        text += text_of_body(one["body"])
    return text


def bodies_of(told):
    return [told["main"]] + [one["body"] for one in told["pieces"]]


def can_be_text(told):
    """A text tells no unknown op, no twelfth number but 0, and no name without bytes."""
    instructions = [one for body in bodies_of(told) for one in body]
    return all(told["names"]) and all([one["op"] < len(WORDS) and one["twelfth"] == 0 for one in instructions])


def load(row):
    return [1, len(row)] + list(row)


def read(text):
    row = list(text.encode("latin-1")) if isinstance(text, str) else list(text)
    return [2, len(row)] + row


def same(row):
    return [12, len(row)] + list(row)


COUNTS = [3]
TEXT = [10]
BYTES = [11]


def every_call(told):
    """Each call that asks of the code held, with all numbers that it can be asked for, and the first that it can't."""
    bodies = bodies_of(told)
    wheres = sorted({one["where"] for body in bodies for one in body} | {1, 4294967295})
    asked = [COUNTS, TEXT, BYTES, same(to_bytes(told)), same([])]
    asked += [[number, slot] for number in (4, 8) for slot in range(len(told["slots"]) + 1)]
    asked += [[5, name] for name in range(len(told["names"]) + 1)]
    for number, body in enumerate(bodies + [[]]):
        asked += [[6, number, place] for place in range(len(body) + 1)] + [[9, number]]
        asked += [[7, number, where] for where in wheres]
    return asked


def own_copy(told):
    """A copy in which no part stands twice, as END may in code: what is changed there is changed there alone."""
    if isinstance(told, dict):
        return {key: own_copy(part) for key, part in told.items()}
    if isinstance(told, (list, tuple)):
        return type(told)([own_copy(part) for part in told])
    return told


def loops_around(body):
    """Of each loop that ends the place of its back; of each place the set of loops that hold it."""
    ended_by = {}
    for place, told in enumerate(body):
        if told["op"] == 21:
            begun = [spot for spot in range(place) if body[spot]["op"] == 19 and spot not in ended_by]
            if begun:
                ended_by[max(begun)] = place
    held_by = [{spot for spot in range(place)
                if body[spot]["op"] == 19 and place <= ended_by.get(spot, len(body))} for place in range(len(body))]
    return ended_by, held_by


def ask(*calls):
    """The answers of calls on one object, each a list."""
    told = answers([number for one in calls for number in one])
    found = []
    spot = 0
    while spot < len(told):
        found.append(told[spot + 1:spot + 1 + told[spot]])
        spot += 1 + told[spot]
    if spot != len(told) or len(found) != len(calls):
        raise ValueError(f"{len(calls)} calls, but answered was {told}")
    return found


def judged(told):
    """What load answers; where a text can tell the code, read must answer the same."""
    answer = ask(load(to_bytes(told)))[0]
    if can_be_text(told):
        by_text = ask(read(to_text(told)))[0]
        if by_text != answer:
            raise ValueError(f"load answers {answer}, read {by_text}")
    return answer


EXAMPLE = code(
    d=1, slots=[shape(9, 4), shape(9, 4)], calls=[call(0, 0, operands="s0", results="s1")],
    main=[ins("call"), ins("tell", aux=1, a=1), END],
    pieces=[piece(inputs=[shape(9, 4)], body=[
        ins("place"), ins("convert", kind=4, aux=3, dst=1), ins("cell", dst=2, a=1, where=5),
        ins("one", kind=9, dst=2, a=2), ins("const", kind=9, dst=3, imm=16384),
        ins("two", kind=9, aux=2, dst=2, a=2, b=3), ins("store", a=1, b=2, where=6), END,
    ])],
)

EXAMPLE_LINES = (
    "code 1", "slot 9 4", "slot 9 4", "call 0 0 0 0 0 s 0 > s 1", "main", "call 0 0 0 0 0 0 0 0 0 0",
    "tell 0 0 1 0 1 0 0 0 0 0", "end 0 0 0 0 0 0 0 0 0 0", "piece 0 0", "axes 4", "input 9 4", "result 9 0 4",
    "place 0 0 0 0 0 0 0 0 0 0", "convert 4 0 3 1 0 0 0 0 0 0", "cell 0 0 0 2 1 0 0 5 0 0",
    "one 9 0 0 2 2 0 0 0 0 0", "const 9 0 0 3 0 0 0 0 16384 0", "two 9 0 2 2 2 3 0 0 0 0",
    "store 0 0 0 0 1 2 0 6 0 0", "end 0 0 0 0 0 0 0 0 0 0",
)


def example_text(**changed):
    """The document's example; line_6="..." puts another line in the place of line 6, None leaves it out."""
    lines = list(EXAMPLE_LINES)
    for key, other in changed.items():
        lines[int(key[5:])] = other
    return "".join([one + "\n" for one in lines if one is not None])


# Every part that code can have, each at least twice where two can be told apart.
RICH = code(
    d=2,
    slots=[shape(9, 4), shape(9, 4), shape(3), shape(0, 2, 3), shape(12, 1, 2, 3, 4), shape(9, 3, 0)],
    names=[b"x", b"\xff\x01" * 16],
    calls=[
        call(0, 0, operands="s0 n5", results="s1 n6"), call(1, 0, 9, 2, 255, "s0", "n1023"),
        call(1, 10, 3, 0, 0, "", "s6"),
    ],
    main=[
        ins("ask", aux=1, dst=0, imm=1), ins("loop", dst=7, imm=3, to=5, where=4294967295), ins("call", imm=0),
        ins("skip", aux=1, to=4), ins("back", dst=7, imm=3, to=2), ins("fail", imm=18446744073709551615), END,
    ],
    pieces=[
        piece(axes=[2, 3], inputs=[shape(9, 4), shape(4)], results=[(9, [4], 0), (4, [], 2)], place=4294967295,
              flag=1, body=[ins("hand", aux=1, a=255, mask=63), ins("store", aux=0, a=1, c=3), END]),
        piece(body=[ins("loop"), ins("round", imm=2, to=3), ins("back", to=1), END]),
    ],
)
RICH["slots"].append(shape(3, 7))
