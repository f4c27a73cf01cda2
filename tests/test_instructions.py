"""What 4: each op in main and in bodies, each field at its bounds, as bytes and as a text."""

import unittest

from helper import BODY_ONLY, END, FIELDS, MAIN_ONLY, WIDTHS, WORDS, call, code, ins, judged, piece, shape

LARGEST = 18446744073709551615
ANY_KIND = (0, 12)
FLOATING = (9, 12)
WAYS = ("skip", "loop", "round", "back")

# Of each op: the fields that it names, each with the least and the most that it may be. A row with aux (1, 1) is of
# that aux alone. "P" is a place.
SHARED = [
    ("const", dict(kind=ANY_KIND, dst="P", imm=(0, LARGEST))),
    ("move", dict(dst="P", a="P")),
    ("two", dict(kind=(9, 12), aux=(0, 9), dst="P", a="P", b="P")),
    ("two", dict(kind=(0, 0), aux=(13, 16), dst="P", a="P", b="P")),
    ("two", dict(kind=(1, 8), aux=(13, 16), dst="P", a="P", b="P")),
    ("two", dict(kind=(1, 8), aux=(10, 19), dst="P", a="P", b="P")),
    ("one", dict(kind=(9, 12), aux=(0, 7), dst="P", a="P", imm=(0, 3))),
    ("one", dict(kind=(1, 8), aux=(8, 9), dst="P", a="P", imm=(0, 3))),
    ("one", dict(kind=(0, 0), aux=(2, 2), dst="P", a="P", imm=(0, 3))),
    ("fused", dict(kind=FLOATING, dst="P", a="P", b="P", c="P")),
    ("mantissa", dict(kind=FLOATING, dst="P", a="P")),
    ("convert", dict(kind=ANY_KIND, aux=(0, 13), dst="P", a="P")),
    ("compare", dict(kind=ANY_KIND, aux=(0, 7), dst="P", a="P", b="P")),
    ("isnan", dict(kind=FLOATING, dst="P", a="P")),
    ("choose", dict(dst="P", a="P", b="P", c="P")),
    ("function", dict(kind=FLOATING, aux=(0, 8), dst="P", a="P")),
    ("power", dict(kind=FLOATING, dst="P", a="P", b="P")),
    ("draw", dict(kind=(8, 8), aux=(0, 0), dst="P", a="P-3")),
    ("draw", dict(kind=(8, 8), aux=(1, 1), dst="P", a="P-3", b="P")),
    ("draw", dict(kind=FLOATING, aux=(2, 3), dst="P", a="P-3")),
]
# The piece: two axes, inputs without lengths, of two, of four; results of three, without, of one of kind 0, of four.
PIECE = dict(
    axes=[2, 2], inputs=[shape(9), shape(9, 2, 2), shape(9, 1, 1, 1, 1)],
    results=[(9, [2, 2, 2], 0), (9, [], 0), (0, [4], 0), (9, [1, 1, 1, 1], 0)],
)
BODY = [
    ("end", dict()),
    ("place", dict(mask=(0, 63), dst="P", a=(0, 1))),
    ("test", dict(mask=(0, 63), dst=(1, 63), a="P")),
    ("masks", dict(aux=(0, 15), dst=(1, 63), a=(0, 63), b=(0, 63))),
    ("cell", dict(mask=(0, 63), aux=(0, 0), dst="P", a="P")),
    ("cell", dict(mask=(0, 63), aux=(1, 1), dst="P", a=(0, 254))),
    ("cell", dict(mask=(0, 63), aux=(2, 2), dst="P", a=(0, 252))),
    ("store", dict(mask=(0, 63), aux=(0, 0), a=(0, 253), b="P", c=(0, 3))),
    ("store", dict(mask=(0, 63), aux=(2, 2), a="P", b="P", c=(0, 0))),
    ("store", dict(mask=(0, 63), aux=(3, 3), a=(0, 252), b="P", c=(0, 3))),
    ("hand", dict(mask=(0, 63), aux=(1, 1), a="P")),
    ("fail", dict(mask=(0, 63), imm=(0, LARGEST))),
    ("skip", dict(mask=(0, 63), to=(0, 4294967295))),
    ("loop", dict()),
    ("round", dict(mask=(0, 63), imm=(0, LARGEST), to=(0, 4294967295))),
    ("back", dict(to=(0, 4294967295))),
]
# Slots: without lengths, of four twice, of five, of four lengths.
MAIN = [
    ("end", dict()),
    ("cell", dict(aux=(0, 0), dst="P", a="P")),
    ("cell", dict(aux=(1, 1), dst="P", a=(0, 1023))),
    ("cell", dict(aux=(4, 4), dst="P", a=(0, 1020))),
    ("fail", dict(imm=(0, LARGEST))),
    ("skip", dict(aux=(0, 0), a="P", to=(0, 4294967295))),
    ("skip", dict(aux=(1, 1), to=(0, 4294967295))),
    ("loop", dict(dst="P", imm=(0, LARGEST), to=(0, 4294967295))),
    ("back", dict(dst="P", imm=(0, LARGEST), to=(0, 4294967295))),
    ("call", dict(imm=(0, 1))),
    ("tell", dict(aux=(0, 0), kind=ANY_KIND, a="P")),
    ("tell", dict(aux=(1, 1), a=(0, 4))),
    ("ask", dict(aux=(0, 0), kind=ANY_KIND, dst="P", imm=(0, 2))),
    ("ask", dict(aux=(1, 1), dst=(0, 4), imm=(0, 2))),
    ("copy", dict(dst=(1, 2), a=(1, 2))),
]
SLOTS = [shape(9), shape(3, 4), shape(3, 4), shape(3, 5), shape(9, 1, 1, 1, 1)]
NAMES = [b"a", b"b", b"c"]
CALLS = [call(1, 10, 3, results="s1"), call(1, 10, 3, results="s2")]


def in_main(told):
    """The answer where told stands as main's instruction 1."""
    return judged(code(slots=SLOTS, names=NAMES, calls=CALLS, main=[ins("fail"), told, END]))


def in_body(told):
    """The answer where told stands as instruction 1 of piece 1's body: numbered through 4."""
    return judged(code(pieces=[piece(body=[END]), piece(body=[ins("fail"), told, END], **PIECE)],
                       main=[ins("fail"), END]))


class Bounds(unittest.TestCase):
    """Each row of the lists above, in main or in a body."""

    def check(self, rows, answer_of, number, places, mask):
        for word, named in rows:
            ranges = {field: self.range_of(told, places) for field, told in named.items()}
            if mask:
                ranges["mask"] = (0, 63)
            self.check_row(word, ranges, answer_of, number)

    def range_of(self, told, places):
        return {"P": (0, places - 1), "P-3": (0, places - 4)}.get(told, told)

    def check_row(self, word, ranges, answer_of, number):
        least = {field: told[0] for field, told in ranges.items()}
        most = {field: told[1] for field, told in ranges.items()}
        self.good(answer_of, word, least)
        self.good(answer_of, word, most)
        for field in FIELDS:
            if field == "where":
                self.good(answer_of, word, dict(least, where=4294967295))
            elif field in ranges:
                self.check_named(word, least, field, ranges[field], answer_of, number)
            else:
                for value in (1, 2, 256 ** WIDTHS[field] - 1):
                    self.wrong(answer_of, number, word, dict(least, **{field: value}))
                    self.wrong(answer_of, number, word, dict(most, **{field: value}))
        self.wrong(answer_of, number, word, dict(least, twelfth=1))
        self.wrong(answer_of, number, word, dict(least, twelfth=4294967295))

    def check_named(self, word, least, field, bounds, answer_of, number):
        for value in bounds:
            self.good(answer_of, word, dict(least, **{field: value}))
        # Beyond kind and aux other rows begin: they are gone through by themselves.
        if field in ("kind", "aux"):
            return
        # A copy's slots are asked by their shapes.
        if bounds[0] > 0 and word != "copy":
            self.wrong(answer_of, number, word, dict(least, **{field: bounds[0] - 1}))
        if bounds[1] < 256 ** WIDTHS[field] - 1:
            self.wrong(answer_of, number, word, dict(least, **{field: bounds[1] + 1}))
            self.wrong(answer_of, number, word, dict(least, **{field: 256 ** WIDTHS[field] - 1}))

    def good(self, answer_of, word, fields):
        answer = answer_of(ins(word, **fields))
        # What follows (what 5) is not this test's matter.
        expected = [0] if word not in WAYS and word != "end" else answer if answer[:2] == [-2, 5] else [0]
        self.assertEqual(answer, expected, (word, fields))

    def wrong(self, answer_of, number, word, fields):
        self.assertEqual(answer_of(ins(word, **fields)), [-2, 4, number], (word, fields))

    def test_shared_ops_in_main(self):
        self.check(SHARED, in_main, 1, 1024, False)

    def test_shared_ops_in_bodies(self):
        self.check(SHARED, in_body, 4, 256, True)

    def test_main_ops(self):
        self.check(MAIN, in_main, 1, 1024, False)

    def test_body_ops(self):
        self.check(BODY, in_body, 4, 256, False)


class KindsAndAux(unittest.TestCase):
    """All kinds with all aux around the bounds."""

    def check(self, word, allowed, where=(in_main, in_body), **fields):
        for answer_of, number in ((in_main, 1), (in_body, 4)):
            if answer_of not in where:
                continue
            for kind in list(range(15)) + [255]:
                for aux in list(range(22)) + [255]:
                    expected = [0] if allowed(kind, aux) else [-2, 4, number]
                    told = ins(word, kind=kind, aux=aux, **fields)
                    self.assertEqual(answer_of(told), expected, (word, kind, aux))

    def test_const(self):
        self.check("const", lambda kind, aux: kind <= 12 and aux == 0)

    def test_move(self):
        self.check("move", lambda kind, aux: kind == 0 and aux == 0)

    def test_two(self):
        allowed = {kind: range(20) for kind in range(1, 9)}
        allowed.update({kind: range(10) for kind in range(9, 13)})
        allowed[0] = range(13, 17)
        self.check("two", lambda kind, aux: aux in allowed.get(kind, ()))

    def test_one(self):
        allowed = {kind: range(10) for kind in range(1, 9)}
        allowed.update({kind: range(8) for kind in range(9, 13)})
        allowed[0] = [2]
        self.check("one", lambda kind, aux: aux in allowed.get(kind, ()))

    def test_floating_alone(self):
        for word in ("fused", "mantissa", "isnan", "power"):
            self.check(word, lambda kind, aux: 9 <= kind <= 12 and aux == 0)

    def test_function(self):
        self.check("function", lambda kind, aux: 9 <= kind <= 12 and aux <= 8)

    def test_convert(self):
        self.check("convert", lambda kind, aux: kind <= 12 and aux <= 13)

    def test_compare(self):
        self.check("compare", lambda kind, aux: kind <= 12 and aux <= 7)

    def test_choose(self):
        self.check("choose", lambda kind, aux: kind == 0 and aux == 0)

    def test_draw(self):
        self.check("draw", lambda kind, aux: kind == 8 if aux < 2 else aux < 4 and 9 <= kind <= 12)

    def test_draw_with_b(self):
        self.check("draw", lambda kind, aux: kind == 8 and aux == 1, b=1)

    def test_cell_in_main(self):
        self.check("cell", lambda kind, aux: kind == 0 and aux < len(SLOTS), where=(in_main,))

    def test_cell_in_bodies(self):
        self.check("cell", lambda kind, aux: kind == 0 and aux < 3, where=(in_body,))

    def test_store(self):
        self.check("store", lambda kind, aux: kind == 0 and aux in (0, 2, 3), where=(in_body,))

    def test_store_with_c(self):
        self.check("store", lambda kind, aux: kind == 0 and aux in (0, 3), where=(in_body,), c=1)

    def test_hand(self):
        self.check("hand", lambda kind, aux: kind == 0 and aux == 1, where=(in_body,))

    def test_masks(self):
        self.check("masks", lambda kind, aux: kind == 0 and aux <= 15, where=(in_body,), dst=1)

    def test_tell(self):
        self.check("tell", lambda kind, aux: kind <= 12 if aux == 0 else kind == 0 and aux == 1, where=(in_main,))

    def test_ask(self):
        self.check("ask", lambda kind, aux: kind <= 12 if aux == 0 else kind == 0 and aux == 1, where=(in_main,))

    def test_skip_in_main(self):
        self.check("skip", lambda kind, aux: kind == 0 and aux <= 1, where=(in_main,), to=2)


class Ops(unittest.TestCase):
    def test_ops_that_there_are_not(self):
        for op in list(range(29, 256)):
            self.assertEqual(in_main(ins(op)), [-2, 4, 1], op)
            self.assertEqual(in_body(ins(op)), [-2, 4, 4], op)

    def test_ops_of_bodies_in_main(self):
        for word in BODY_ONLY:
            for dst in (0, 1):
                self.assertEqual(in_main(ins(word, dst=dst)), [-2, 4, 1], word)

    def test_ops_of_main_in_bodies(self):
        for word in MAIN_ONLY:
            self.assertEqual(in_body(ins(word)), [-2, 4, 4], word)

    def test_every_op_was_gone_through(self):
        self.assertEqual({word for word, named in SHARED + BODY + MAIN}, set(WORDS))


class Things(unittest.TestCase):
    """What instructions name is there."""

    def test_copy(self):
        for dst in range(6):
            for a in range(6):
                good = dst == a and dst < 5 or {dst, a} == {1, 2}
                self.assertEqual(in_main(ins("copy", dst=dst, a=a)), [0] if good else [-2, 4, 1], (dst, a))

    def test_copy_of_another_kind(self):
        slots = [shape(1, 4), shape(5, 4)]
        self.assertEqual(judged(code(slots=slots, main=[ins("copy", dst=0, a=1), END])), [-2, 4, 0])

    def test_nothing_is_there(self):
        for told in (ins("cell"), ins("call"), ins("tell", aux=1), ins("ask"), ins("ask", aux=1), ins("copy")):
            self.assertEqual(judged(code(main=[told, END])), [-2, 4, 0])
        self.assertEqual(judged(code(pieces=[piece(body=[ins("cell"), END])])), [-2, 4, 1])
        self.assertEqual(judged(code(pieces=[piece(body=[ins("hand"), END])])), [-2, 4, 1])
        told = piece(results=[(9, [], 0)], body=[ins("store"), END])
        self.assertEqual(judged(code(pieces=[told])), [-2, 4, 1])

    def test_ask_of_a_slot_needs_a_name_too(self):
        self.assertEqual(judged(code(slots=SLOTS, main=[ins("ask", aux=1), END])), [-2, 4, 0])
        self.assertEqual(judged(code(slots=SLOTS, names=[b"a"], main=[ins("ask", aux=1), END])), [0])

    def test_a_body_is_asked_by_its_own_piece(self):
        more = piece(axes=[1, 1, 1], inputs=[shape(1)], results=[(1, [], 0)],
                     body=[ins("place", a=2), ins("cell"), ins("hand"), END])
        self.assertEqual(judged(code(pieces=[piece(), more])), [0])
        less = piece(axes=[1, 1, 1], body=[ins("place", a=2), ins("cell"), END])
        self.assertEqual(judged(code(pieces=[more, less])), [-2, 4, 6])


class Order(unittest.TestCase):
    def test_the_first_is_told(self):
        wrong = ins(29)
        bodies = [piece(body=[END, wrong, wrong]), piece(body=[wrong, END])]
        self.assertEqual(judged(code(main=[END, END, wrong, wrong], pieces=bodies)), [-2, 4, 2])
        self.assertEqual(judged(code(main=[END, END], pieces=bodies)), [-2, 4, 3])
        self.assertEqual(judged(code(main=[END], pieces=[piece(body=[]), bodies[1]])), [-2, 4, 1])


if __name__ == "__main__":
    unittest.main()
