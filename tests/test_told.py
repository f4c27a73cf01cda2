"""The calls text and bytes: the text and the bytes of the code held, whichever of both it was told by."""

import random
import unittest

from helper import (
    BYTES, END, EXAMPLE, RICH, TEXT, WORDS, ask, call, code, every_call, example_text, ins, load, piece, read, same,
    shape, to_bytes, to_text,
)
from random_code import random_code

LARGEST = 18446744073709551615
EIGHT = "n0 n1 n2 n3 n4 n5 n6 n1023"
# Every op, in main and in a body, with as many of its fields as it names.
MAIN_OPS = [
    ins("const", kind=12, dst=1023, imm=LARGEST, where=4294967295), ins("move", dst=1, a=1023),
    ins("two", kind=0, aux=16, dst=1, a=2, b=1023), ins("one", kind=1, aux=9, dst=1, a=2, imm=3),
    ins("fused", kind=9, dst=1, a=2, b=3, c=1023), ins("mantissa", kind=9, dst=1, a=2), ins("convert", aux=13, dst=1, a=2),
    ins("compare", aux=7, dst=1, a=2, b=3), ins("isnan", kind=12, dst=1, a=2), ins("choose", dst=1, a=2, b=3, c=4),
    ins("cell", aux=1, dst=2, a=3), ins("fail", imm=LARGEST), ins("skip", a=1023, to=13), ins("skip", aux=1, to=14),
    ins("loop", dst=1000, imm=1048576, to=16), ins("back", dst=1000, imm=1048576, to=15), ins("call", imm=1),
    ins("tell", kind=12, a=1023), ins("tell", aux=1, a=1), ins("ask", kind=12, dst=1023, imm=1),
    ins("ask", aux=1, dst=1), ins("copy", dst=1, a=2), ins("function", kind=10, aux=8, dst=1, a=2),
    ins("power", kind=11, dst=1, a=2, b=3), ins("draw", kind=8, aux=1, dst=1, a=1020, b=1023), END,
]
BODY_OPS = [
    ins("const", kind=12, mask=63, dst=255, imm=LARGEST, where=4294967295), ins("place", mask=1, dst=2, a=1),
    ins("test", mask=2, dst=63, a=255), ins("masks", aux=15, dst=63, a=62, b=61), ins("cell", mask=3, aux=1, dst=4, a=5),
    ins("store", mask=4, aux=1, a=5, b=6, c=3), ins("hand", mask=5, aux=0, a=255), ins("fail", mask=6, imm=LARGEST),
    ins("skip", mask=7, to=9), ins("loop"), ins("round", mask=8, imm=1048576, to=12), ins("back", to=10, where=9), END,
]
ALL_OPS = code(
    slots=[shape(9, 4), shape(3, 4), shape(3, 4)], names=[b"a", bytes(range(224, 256))],
    calls=[call(1, 10, 3, results="s1"), call(1, 10, 3, results="s2")], main=MAIN_OPS,
    pieces=[piece(axes=[1, 2], inputs=[shape(9), shape(9, 4)], results=[(9, [], 2), (9, [4], 0)], body=BODY_OPS)],
)
# As much of everything in one part as there may be.
WIDE = code(
    d=3, slots=[shape(9, 1, 2, 3, 4), shape(9, 1, 2, 3, 4), shape(0, 1048576), shape(12)],
    names=[bytes(range(first, first + 32)) for first in range(1, 225, 32)] + [b"\xff", b"\x01"],
    calls=[
        call(0, 0, operands=EIGHT, results=EIGHT), call(1, 6, 9, 3, LARGEST, "s0", "s1"), call(0, 1, results="n65"),
        call(1, 0, 9, 3, 255, "s1", "n1023"),
    ],
    pieces=[
        piece(axes=[1, 2, 3, 4], inputs=[shape(9)] * 8, results=[(12, [], 1)] * 8, place=4294967295, flag=1),
        piece(axes=[1048576], inputs=[], results=[(1, [], 0)], place=1, flag=0),
        piece(axes=[0, 1048576, 1048576, 1048576], inputs=[shape(0, 0, 1048576)], results=[(0, [1, 1, 1, 1], 0)], flag=1),
    ],
)
MANY = [
    code(slots=[shape(9)] * 256, d=256), code(names=[[number % 255 + 1] for number in range(256)]),
    code(pieces=[piece(results=[(1, [], 0)], place=number) for number in range(256)]),
    code(slots=[shape(3, 4)], calls=[call(1, 10, 3, results="s0")] * 1000),
    code(main=[ins("fail", imm=number) for number in range(650)] + [END]),
]
ALL = [code(), EXAMPLE, RICH, ALL_OPS, WIDE] + MANY


def text_row(told):
    return list(to_text(told).encode())


class Told(unittest.TestCase):
    def test_all_ops_are_there(self):
        self.assertEqual({one["op"] for one in MAIN_OPS + BODY_OPS}, set(range(len(WORDS))))

    def test_of_code_that_was_loaded(self):
        for told in ALL:
            self.assertEqual(ask(load(to_bytes(told)), TEXT, BYTES), [[0], [0] + text_row(told), [0] + to_bytes(told)])

    def test_of_code_that_was_read(self):
        for told in ALL:
            self.assertEqual(ask(read(to_text(told)), TEXT, BYTES), [[0], [0] + text_row(told), [0] + to_bytes(told)])

    def test_the_documents_text(self):
        row = list(example_text().encode())
        self.assertEqual(ask(read(example_text()), TEXT, load(to_bytes(EXAMPLE)), TEXT)[1::2], [[0] + row] * 2)

    def test_least_code(self):
        text = b"code 0\nmain\nend 0 0 0 0 0 0 0 0 0 0\n"
        row = [76, 87, 67, 49] + [0] * 20 + [1, 0, 0, 0] + [0] * 32
        self.assertEqual(ask(read(text), TEXT, BYTES), [[0], [0] + list(text), [0] + row])

    def test_two_digits_of_each_byte_of_a_name(self):
        told = code(names=[[1, 15, 16, 159, 160, 171, 255, 10]])
        text = b"code 0\nname 010f109fa0abff0a\nmain\nend 0 0 0 0 0 0 0 0 0 0\n"
        self.assertEqual(ask(load(to_bytes(told)), TEXT)[1], [0] + list(text))

    def test_empty_lists_leave_no_blank(self):
        told = code(slots=[shape(7)], pieces=[piece(results=[(3, [], 2)])])
        text = bytes(ask(load(to_bytes(told)), TEXT)[1][1:]).decode()
        self.assertEqual(text.splitlines()[:2], ["code 0", "slot 7"])
        self.assertIn("result 3 2\n", text)
        self.assertNotIn(" \n", text)
        self.assertNotIn("  ", text)

    def test_a_call_without_operands(self):
        told = code(slots=[shape(3, 4)], calls=[call(1, 10, 3, results="s0")])
        text = bytes(ask(load(to_bytes(told)), TEXT)[1][1:]).decode()
        self.assertEqual(text.splitlines()[2], "call 1 10 3 0 0 > s 0")

    def test_what_good_code_takes_the_place_of_is_told_no_more(self):
        found = ask(load(to_bytes(RICH)), TEXT, read(example_text()), TEXT, BYTES, load(to_bytes(code())), TEXT, BYTES)
        self.assertEqual(found[3:5], [[0] + list(example_text().encode()), [0] + to_bytes(EXAMPLE)])
        self.assertEqual(found[6:], [[0] + text_row(code()), [0] + to_bytes(code())])


class ToldAgain(unittest.TestCase):
    """What is told and read or loaded again is the same code: it answers alike in every call."""

    def check(self, told):
        asked = every_call(told)
        first = ask(load(to_bytes(told)), *asked)
        self.assertEqual(first[0], [0])
        text = first[1 + asked.index(TEXT)][1:]
        row = first[1 + asked.index(BYTES)][1:]
        for again in (load(row), read(text)):
            self.assertEqual(ask(again, *asked), first)

    def test_codes(self):
        for told in (code(), EXAMPLE, RICH, ALL_OPS, WIDE):
            self.check(told)

    def test_random_codes(self):
        source = random.Random(10)
        for step in range(60):
            self.check(random_code(source))

    def test_no_two_codes_have_the_same_text_or_bytes(self):
        source = random.Random(11)
        codes = [random_code(source) for step in range(150)] + ALL
        texts = {}
        rows = {}
        for told in codes:
            found = ask(load(to_bytes(told)), TEXT, BYTES)
            texts.setdefault(tuple(found[1]), []).append(told)
            rows.setdefault(tuple(found[2]), []).append(told)
        self.assertGreater(len(texts), 100)
        self.assertEqual(len(texts), len(rows))
        for group in list(texts.values()) + list(rows.values()):
            self.assertTrue(all(told == group[0] for told in group))


class Refused(unittest.TestCase):
    def test_no_code_is_held(self):
        found = ask(TEXT, BYTES, load([]), TEXT, BYTES, read("code"), TEXT, BYTES)
        self.assertEqual(found, [[-8], [-8], [-2, 1, 0], [-8], [-8], [-5], [-8], [-8]])

    def test_refused_code_is_not_told(self):
        bad = code(main=[END, END])
        found = ask(load(to_bytes(RICH)), load(to_bytes(bad)), read(to_text(bad)), same(to_bytes(EXAMPLE)), TEXT, BYTES)
        self.assertEqual(found[1:], [[-2, 5, 0], [-2, 5, 0], [0], [0] + text_row(RICH), [0] + to_bytes(RICH)])


if __name__ == "__main__":
    unittest.main()
