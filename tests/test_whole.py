"""What the document promises over the whole program: every call over code at random, and the largest lists."""

import random
import sys
import unittest

from by_the_words import most_of, same_of, uses_of, where_of
from helper import (
    BYTES, COUNTS, END, TEXT, answers, ask, bodies_of, call, code, every_call, ins, load, piece, read, same, shape,
    to_bytes, to_text,
)
from random_code import random_code

CELL_BYTES = (1, 1, 2, 4, 8, 1, 2, 4, 8, 2, 2, 4, 8)
LARGEST = 18446744073709551615


def counts_of(told):
    all_bytes = 0
    for kind, lengths in told["slots"]:
        cells = 1
        for length in lengths:
            cells *= length
        all_bytes += -(-cells * CELL_BYTES[kind] // 64) * 64
    parts = [len(told[part]) for part in ("names", "pieces", "calls", "main")]
    return [0, len(told["slots"]), told["d"]] + parts + [sum(len(body) for body in bodies_of(told)), all_bytes]


def at_of(told, body, place):
    bodies = bodies_of(told)
    if body >= len(bodies) or place >= len(bodies[body]):
        return [-4]
    one = bodies[body][place]
    return [0] + [one[field] for field in ("op", "kind", "mask", "aux", "dst", "a", "b", "c", "where", "imm", "to")]


def expected(told, asked):
    """What a call is to answer while told is held."""
    number, rest = asked[0], asked[1:]
    if number == 4:
        return [0, told["slots"][rest[0]][0]] + told["slots"][rest[0]][1] if rest[0] < len(told["slots"]) else [-4]
    if number == 5:
        return [0] + told["names"][rest[0]] if rest[0] < len(told["names"]) else [-4]
    if number == 12:
        return same_of(told, told) if rest[0] else [-2, 1, 0]
    return {
        3: lambda: counts_of(told), 6: lambda: at_of(told, *rest), 7: lambda: where_of(told, *rest),
        8: lambda: uses_of(told, *rest), 9: lambda: most_of(told, *rest),
        10: lambda: [0] + list(to_text(told).encode()), 11: lambda: [0] + to_bytes(told),
    }[number]()


class EveryCall(unittest.TestCase):
    def test_over_code_at_random(self):
        source = random.Random(20)
        parts = {part: 0 for part in ("names", "pieces", "calls", "main")}
        large = 0
        for step in range(150):
            told = random_code(source)
            asked = every_call(told)
            answered = [[0]] + [expected(told, one) for one in asked]
            self.assertEqual(ask(load(to_bytes(told)), *asked), answered)
            self.assertEqual(ask(read(to_text(told)), *asked), answered)
            large += [-6] in answered
            for part in parts:
                parts[part] += len(told[part])
        # Enough of everything for the comparison to tell something.
        self.assertGreater(min(parts.values()), 150)
        self.assertGreater(large, 0)

    def test_one_object_over_many_codes(self):
        source = random.Random(21)
        codes = [random_code(source) for step in range(20)]
        given = []
        answered = []
        for told in codes:
            given += [source.choice((load(to_bytes(told)), read(to_text(told)))), COUNTS, TEXT, BYTES, [9, 0], [8, 0]]
            answered += [[0]] + [expected(told, one) for one in given[-5:]]
        self.assertEqual(ask(*given), answered)


class Largest(unittest.TestCase):
    """Lists of 30000 numbers, 300 calls, 10000000 numbers answered."""

    @classmethod
    def setUpClass(cls):
        one = ins("fail", where=4294967295, imm=LARGEST)
        cls.long = code(main=[one] * 706 + [END], pieces=[piece(body=[dict(one, mask=63)] * 71 + [END])])
        cls.row = to_bytes(cls.long)
        cls.text = list(to_text(cls.long).encode())

    def test_the_longest_code(self):
        self.assertTrue(25000 - 32 < len(self.row) <= 25000)
        found = ask(load(self.row), TEXT, BYTES, [7, 0, 4294967295], [9, 0], [9, 1])
        self.assertEqual(found, [[0], [0] + self.text, [0] + self.row, [706, 0], [707], [72]])

    def test_the_longest_text(self):
        line = "end 0 0 0 0 0 0 0 0 0 0\n"
        text = "code 0\nmain\n" + line.replace("end", "isnan").replace("isnan 0", "isnan 9") * 950 + line
        self.assertTrue(24000 < len(text) <= 25000)
        found = ask(read(text), TEXT, [9, 0], [7, 0, 0])
        self.assertEqual(found, [[0], [0] + list(text.encode()), [951], [951, 0]])

    def test_thirty_thousand_numbers(self):
        filler = [[6, 0, 0]] * 297
        rest = 30000 - len(load(self.row)) - sum(len(one) for one in filler) - 4
        given = [load(self.row), *filler, same([76] * rest), [9, 0]]
        self.assertEqual(sum(len(one) for one in given), 30000)
        self.assertEqual(len(given), 300)
        found = ask(*given)
        self.assertEqual(found[-2:], [[-2, 1, 0], [707]])

    def test_ten_million_numbers_answered(self):
        count = 9900000 // (len(self.text) + 2)
        self.assertLessEqual(count, 298)
        told = answers(load(self.row) + TEXT * count + BYTES)
        one = [len(self.text) + 1, 0] + self.text
        self.assertTrue(9800000 < len(told) <= 10000000)
        self.assertEqual(told[:2], [1, 0])
        for step in range(count):
            self.assertEqual(told[2 + step * len(one):2 + (step + 1) * len(one)], one)
        self.assertEqual(told[2 + count * len(one):], [len(self.row) + 1, 0] + self.row)

    def test_many_calls_in_code(self):
        calls = [call(1, 6, 9, 0, number, "s0", "s1") for number in range(900)]
        told = code(slots=[shape(9, 4), shape(9, 4)], calls=calls, main=[ins("call", imm=899), END])
        self.assertLessEqual(len(to_bytes(told)), 25000)
        asked = [TEXT, BYTES, [8, 0], [8, 1], [8, 2], [9, 0]]
        found = ask(load(to_bytes(told)), *asked)
        self.assertEqual(found, [[0]] + [expected(told, one) for one in asked])

    def test_nothing_is_nested_as_deep_as_its_input_is_long(self):
        """Neither 779 instructions nor 380 loops, one begun in another, need many calls within one another."""
        loops = to_bytes(code(main=[ins("loop", dst=number, to=1) for number in range(380)] + [END]))
        given = load(self.row) + TEXT + BYTES + same(self.row[:4000]) + [9, 0, 7, 0, 0]
        before = sys.getrecursionlimit()
        depth = len(frames())
        try:
            sys.setrecursionlimit(depth + 40)
            told = answers(given)
            refused = answers(load(loops))
        finally:
            sys.setrecursionlimit(before)
        self.assertEqual(told[:2], [1, 0])
        self.assertEqual(refused, [3, -2, 5, 0])


def frames():
    found = []
    frame = sys._getframe()
    while frame is not None:
        found.append(frame)
        frame = frame.f_back
    return found


if __name__ == "__main__":
    unittest.main()
