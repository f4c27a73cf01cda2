"""Good code at random, from a source whose seed is written: nested loops, calls of both sorts, every part of code."""

from helper import call, code, ins, piece, shape

SHAPES = [shape(9, 4), shape(3, 4), shape(9, 2, 3), shape(9), shape(0, 4), shape(3), shape(12, 1, 0, 3, 2)]
WHERES = (0, 0, 1, 2, 7, 4294967295)
IMMS = (0, 1, 2, 3, 1048575, 1048576)
LARGEST = 18446744073709551615
# Loops count at places that nothing else puts.
LOOP_PLACES = 900


def random_code(source):
    slots = [source.choice(SHAPES) for step in range(source.randrange(2, 8))]
    names = [[source.randrange(1, 256) for step in range(source.choice((1, 2, 32)))]
             for step in range(source.randrange(4))]
    pieces = [random_piece(source) for step in range(source.randrange(4))]
    told = code(d=source.randrange(len(slots) + 1), slots=slots, names=names, pieces=pieces)
    made = [random_call(source, told) for step in range(source.randrange(6))]
    told["calls"] = [one for one in made if one is not None]
    told["main"] = random_body(source, lambda: main_instruction(source, told), True)
    return told


def random_piece(source):
    inputs = [source.choice(SHAPES) for step in range(source.randrange(4))]
    results = []
    for step in range(source.randrange(1, 4)):
        kind, lengths = source.choice(SHAPES)
        results.append((kind, lengths, 0 if lengths else source.randrange(3)))
    told = piece(axes=[source.randrange(9) for step in range(source.randrange(1, 5))], inputs=inputs, results=results,
                 place=source.choice((0, 5, 4294967295)), flag=source.randrange(2))
    told["body"] = random_body(source, lambda: body_instruction(source, told), False)
    return told


def random_call(source, told):
    """A call that is good, or None where nothing fits."""
    with_lengths = [number for number, one in enumerate(told["slots"]) if one[1]]
    which = source.randrange(4)
    if which == 0 and told["pieces"]:
        return piece_call(source, told)
    if which == 1 and with_lengths:
        number = source.choice(with_lengths)
        return call(1, 9, told["slots"][number][0], 0, 0, f"n{source.randrange(1024)}", f"s{number}")
    if which == 2 and with_lengths:
        number = source.choice(with_lengths)
        kind = told["slots"][number][0]
        return call(1, 0, kind, source.choice((0, 2, 3)), 255, f"s{number}", f"n{source.randrange(800)}") if kind else None
    alike = [(x, r) for x in with_lengths for r in with_lengths if x != r and told["slots"][x] == told["slots"][r]]
    if not alike:
        return None
    x, r = source.choice(alike)
    return call(1, 6, told["slots"][x][0], 0, source.choice((0, 3, LARGEST)), f"s{x}", f"s{r}")


def piece_call(source, told):
    which = source.randrange(len(told["pieces"]))
    one = told["pieces"][which]
    free = list(range(len(told["slots"])))
    results = []
    for kind, lengths, join in one["results"]:
        fitting = [number for number in free if told["slots"][number] == (kind, lengths)]
        if not lengths:
            results.append(f"n{len(results)}")
        elif fitting:
            results.append(f"s{fitting[0]}")
            free.remove(fitting[0])
        else:
            return None
    operands = []
    for kind, lengths in one["inputs"]:
        fitting = [number for number in free if told["slots"][number] == (kind, lengths)]
        if lengths and not fitting:
            return None
        operands.append(f"s{source.choice(fitting)}" if lengths else f"n{source.randrange(1024)}")
    return call(0, which, operands=" ".join(operands), results=" ".join(results))


def main_instruction(source, told):
    where = source.choice(WHERES)
    slot = source.randrange(len(told["slots"]))
    alike = [number for number, one in enumerate(told["slots"]) if one == told["slots"][slot]]
    some = [
        ins("fail", imm=source.choice((0, 5, LARGEST)), where=where),
        ins("const", kind=source.randrange(13), dst=source.randrange(800), imm=source.choice((0, LARGEST)), where=where),
        ins("choose", dst=1, a=2, b=3, c=1023, where=where), ins("tell", aux=1, a=slot, where=where),
        ins("tell", kind=3, a=slot, where=where), ins("cell", aux=slot, dst=slot, a=7, where=where),
        ins("copy", dst=slot, a=source.choice(alike), where=where),
    ]
    if told["names"]:
        name = source.randrange(len(told["names"]))
        some += [ins("ask", aux=1, dst=slot, imm=name, where=where), ins("ask", kind=9, dst=slot, imm=name, where=where)]
    if told["calls"]:
        some += [ins("call", imm=source.randrange(len(told["calls"])), where=where)] * 2
    return source.choice(some)


def body_instruction(source, told):
    where = source.choice(WHERES)
    mask = source.choice((0, 1, 63))
    some = [
        ins("fail", mask=mask, imm=source.choice((0, LARGEST)), where=where), ins("place", mask=mask, dst=255, where=where),
        ins("test", mask=mask, dst=63, a=255, where=where), ins("masks", aux=15, dst=1, a=63, b=2, where=where),
        ins("two", kind=8, mask=mask, aux=19, dst=1, a=2, b=255, where=where),
        ins("one", kind=9, mask=mask, aux=7, dst=1, a=2, imm=3, where=where),
        ins("draw", kind=8, mask=mask, aux=1, dst=1, a=252, b=9, where=where),
    ]
    for number, one in enumerate(told["inputs"]):
        some.append(ins("cell", mask=mask, aux=number, dst=1, a=source.randrange(200), where=where))
    for number, (kind, lengths, join) in enumerate(told["results"]):
        if lengths:
            some.append(ins("store", mask=mask, aux=number, a=5, b=6, c=3 if kind else 0, where=where))
        else:
            some.append(ins("hand", mask=mask, aux=number, a=5, where=where))
    return source.choice(some)


def random_body(source, make, in_main):
    body = []
    put_block(source, body, make, in_main, 0)
    return body + [ins("end", where=source.choice(WHERES))]


def put_block(source, body, make, in_main, depth):
    for step in range(source.randrange(4)):
        form = source.randrange(7)
        if form == 0:
            # What stands next is always held by just the same loops.
            body.append(ins("skip", to=len(body) + 1, where=source.choice(WHERES)))
        elif form < 4 and depth < 5:
            put_loop(source, body, make, in_main, depth)
        else:
            body.append(make())


def put_loop(source, body, make, in_main, depth):
    begin = len(body)
    imm = source.choice(IMMS)
    counting = dict(dst=LOOP_PLACES + depth, imm=imm) if in_main else {}
    body.append(None)
    put_block(source, body, make, in_main, depth + 1)
    if not in_main:
        turn = len(body)
        body.append(None)
        put_block(source, body, make, in_main, depth + 1)
        body[turn] = ins("round", imm=imm, to=len(body) + 1, mask=source.choice((0, 63)))
    body[begin] = ins("loop", to=len(body) + 1 if in_main else 0, where=source.choice(WHERES), **counting)
    body.append(ins("back", to=begin + 1, **counting))
