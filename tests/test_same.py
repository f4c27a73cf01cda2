"""The call same: whether other bytes tell the code held, where, pieces' places and names' numbers aside."""

import random
import unittest

from by_the_words import same_of
from helper import (
    BYTES, END, EXAMPLE, RICH, TEXT, ask, bodies_of, call, code, example_text, ins, load, own_copy, piece, read, same,
    shape, to_bytes, to_text,
)
from lanecode.bytes_in import code_of_bytes
from plain_code import plain
from random_code import random_code


def are_same(one, other):
    """What same answers of two good codes, asked both ways, of code loaded and of code read."""
    found = [
        ask(load(to_bytes(one)), load(to_bytes(other)), same(to_bytes(one))),
        ask(load(to_bytes(other)), load(to_bytes(one)), same(to_bytes(other))),
        ask(read(to_text(one)), read(to_text(one)), same(to_bytes(other))),
    ]
    if [answer[:2] for answer in found] != [[[0], [0]]] * 3:
        raise ValueError(f"not good: {found}")
    told = [answer[2] for answer in found]
    if told != [told[0]] * 3:
        raise ValueError(f"asked one way and the other: {told}")
    return told[0]


def changed(told, *path, to):
    """A copy in which what stands at the path is another."""
    other = own_copy(told)
    at = other
    for step in path[:-1]:
        at = at[step]
    at[path[-1]] = to
    return other


class Same(unittest.TestCase):
    def same(self, one, other):
        self.assertEqual(are_same(one, other), [1])

    def test_the_code_itself(self):
        for told in (EXAMPLE, RICH, code()):
            self.same(told, told)

    def test_another_where(self):
        for where in (1, 4294967295):
            self.same(EXAMPLE, changed(EXAMPLE, "main", 0, "where", to=where))
            self.same(EXAMPLE, changed(EXAMPLE, "main", 2, "where", to=where))
            self.same(EXAMPLE, changed(EXAMPLE, "pieces", 0, "body", 2, "where", to=where))
            self.same(EXAMPLE, changed(EXAMPLE, "pieces", 0, "body", 7, "where", to=where))

    def test_another_place_of_a_piece(self):
        self.same(EXAMPLE, changed(EXAMPLE, "pieces", 0, "place", to=4294967295))
        self.same(RICH, changed(RICH, "pieces", 1, "place", to=3))


class Names(unittest.TestCase):
    SLOTS = [shape(9, 4), shape(9, 4)]

    def told(self, names, asked, **fields):
        main = [ins("ask", kind=9, dst=number, imm=name, **fields) for number, name in enumerate(asked)]
        return code(slots=self.SLOTS, names=names, main=main + [END])

    def check(self, one, other, answer):
        self.assertEqual(are_same(self.told(*one), self.told(*other)), [answer])

    def test_another_order(self):
        self.check(([b"a", b"b"], [0, 1]), ([b"b", b"a"], [1, 0]), 1)
        self.check(([b"a", b"b", b"c"], [2, 0, 0]), ([b"c", b"b", b"a"], [0, 2, 2]), 1)

    def test_the_same_numbers_of_other_names(self):
        self.check(([b"a", b"b"], [0, 1]), ([b"b", b"a"], [0, 1]), 0)
        self.check(([b"a"], [0]), ([b"b"], [0]), 0)
        self.check(([b"a"], [0]), ([b"aa"], [0]), 0)
        self.check(([b"a" * 32], [0]), ([b"a" * 31 + b"b"], [0]), 0)

    def test_names_that_no_ask_asks_for(self):
        self.check(([b"a", b"b"], [0]), ([b"a", b"c"], [0]), 1)
        self.check(([b"a", b"b"], [0]), ([b"a"], [0]), 1)
        self.check(([b"a"], [0]), ([b"x", b"y", b"a"], [2]), 1)
        self.check(([b"a"], []), ([b"b", b"c"], []), 1)
        self.check(([], []), ([b"b", b"c"], []), 1)

    def test_two_names_of_the_same_bytes(self):
        self.check(([b"a", b"a"], [0, 1]), ([b"a"], [0, 0]), 1)
        self.check(([b"a", b"a"], [0, 1]), ([b"a", b"a"], [1, 0]), 1)

    def test_asks_in_another_order(self):
        self.check(([b"a", b"b"], [0, 1]), ([b"a", b"b"], [1, 0]), 0)

    def test_more_or_fewer_asks(self):
        self.check(([b"a"], [0]), ([b"a"], [0, 0]), 0)
        self.check(([b"a"], [0]), ([b"a"], []), 0)

    def test_asks_with_slots(self):
        one = code(slots=self.SLOTS, names=[b"a", b"b"], main=[ins("ask", aux=1, dst=1, imm=0), END])
        other = code(slots=self.SLOTS, names=[b"b", b"a"], main=[ins("ask", aux=1, dst=1, imm=1), END])
        self.assertEqual(are_same(one, other), [1])
        self.assertEqual(are_same(one, changed(other, "main", 0, "imm", to=0)), [0])
        self.assertEqual(are_same(one, changed(other, "main", 0, "dst", to=0)), [0])
        self.assertEqual(are_same(one, changed(other, "main", 0, "aux", to=0)), [0])

    def test_another_kind_or_place(self):
        one = self.told([b"a"], [0])
        self.assertEqual(are_same(one, changed(one, "main", 0, "kind", to=3)), [0])
        self.assertEqual(are_same(one, changed(one, "main", 0, "dst", to=3)), [0])
        self.assertEqual(are_same(one, changed(one, "main", 0, "where", to=3)), [1])

    def test_imm_of_other_ops_is_no_name(self):
        one = code(names=[b"a", b"a"], main=[ins("const", imm=0), ins("fail", imm=0), END])
        self.assertEqual(are_same(one, changed(one, "main", 0, "imm", to=1)), [0])
        self.assertEqual(are_same(one, changed(one, "main", 1, "imm", to=1)), [0])


class Differing(unittest.TestCase):
    """One number that differs, at each part of code."""

    SLOTS = [shape(9, 4), shape(9, 4), shape(9, 4), shape(9, 5), shape(9, 5)]
    PIECES = [
        piece(axes=[2, 3], inputs=[shape(9, 4), shape(9)], results=[(9, [4], 0), (9, [], 1)]),
        piece(axes=[2, 3], inputs=[shape(9, 4), shape(9)], results=[(9, [4], 0), (9, [], 1)]),
    ]
    CALLS = [call(0, 0, operands="s0 n5", results="s1 n6"), call(1, 6, 9, 0, 7, "s0", "s1"),
             call(1, 0, 9, 0, 255, "s0", "n7")]
    TOLD = code(d=1, slots=SLOTS, pieces=PIECES, calls=CALLS, main=[ins("fail"), END])

    def differs(self, *path, to):
        self.assertEqual(are_same(self.TOLD, changed(self.TOLD, *path, to=to)), [0], path)

    def test_d(self):
        for d in (0, 2, 5):
            self.differs("d", to=d)

    def test_slots(self):
        self.differs("slots", 4, to=shape(3, 5))
        self.differs("slots", 4, to=shape(9, 6))
        self.differs("slots", 4, to=shape(9))
        self.differs("slots", 4, to=shape(9, 5, 1))
        self.differs("slots", to=self.SLOTS[:-1])
        self.differs("slots", to=self.SLOTS + [shape(1)])
        self.differs("slots", to=self.SLOTS[:2] + [shape(9, 5), shape(9, 4), shape(9, 5)])

    def test_pieces(self):
        self.differs("pieces", to=self.PIECES + [piece()])
        self.differs("pieces", to=self.PIECES[:1])
        self.differs("pieces", 1, "axes", to=[3, 2])
        self.differs("pieces", 1, "axes", to=[6])
        self.differs("pieces", 1, "axes", to=[2, 3, 1])
        self.differs("pieces", 1, "flag", to=1)

    def test_inputs(self):
        for inputs in ([shape(3, 4), shape(9)], [shape(9, 5), shape(9)], [shape(9, 4)], [shape(9), shape(9, 4)], [],
                       [shape(9, 4), shape(9), shape(9)]):
            self.differs("pieces", 1, "inputs", to=inputs)

    def test_results(self):
        for results in ([(3, [4], 0), (9, [], 1)], [(9, [5], 0), (9, [], 1)], [(9, [4], 0), (9, [], 2)],
                        [(9, [4], 0), (9, [], 0)], [(9, [4], 0)], [(9, [], 1), (9, [4], 0)],
                        [(9, [4], 0), (9, [], 1), (9, [], 1)]):
            self.differs("pieces", 1, "results", to=results)

    def test_an_input_is_no_result(self):
        one = code(pieces=[piece(inputs=[shape(9, 4), shape(9, 4)], results=[(9, [4], 0)])])
        other = code(pieces=[piece(inputs=[shape(9, 4)], results=[(9, [4], 0), (9, [4], 0)])])
        self.assertEqual(are_same(one, other), [0])

    def test_calls(self):
        self.differs("calls", to=self.CALLS[:-1])
        self.differs("calls", to=self.CALLS + self.CALLS[-1:])
        self.differs("calls", to=self.CALLS[::-1])
        self.differs("calls", 0, "which", to=1)
        self.differs("calls", 1, "v", to=8)
        self.differs("calls", 1, "v", to=18446744073709551615)
        self.differs("calls", 2, "u", to=2)
        self.differs("calls", 2, "v", to=0)
        self.differs("calls", 2, to=call(1, 0, 9, 0, 255, "s0", "n8"))
        self.differs("calls", 0, to=call(0, 0, operands="s2 n5", results="s1 n6"))
        self.differs("calls", 0, to=call(0, 0, operands="s0 n4", results="s1 n6"))
        self.differs("calls", 0, to=call(0, 0, operands="s0 n5", results="s2 n6"))
        self.differs("calls", 0, to=call(0, 0, operands="s0 n5", results="s1 n5"))

    def test_sort_of_a_call(self):
        """A piece and a function of the same number, both from truths to truths: all but the sort is the same."""
        slots = [shape(0, 4), shape(0, 4)]
        pieces = [piece(inputs=[shape(0, 4)], results=[(0, [4], 0)])] * 4
        one = code(slots=slots, pieces=pieces, calls=[call(0, 3, operands="s0", results="s1")])
        other = code(slots=slots, pieces=pieces, calls=[call(1, 3, operands="s0", results="s1")])
        self.assertEqual(are_same(one, other), [0])

    def test_functions_that_ask_for_the_same(self):
        slots = [shape(9, 4), shape(9, 4)]
        calls = [call(1, which, 9, operands="s0", results="s1") for which in (3, 6, 8)]
        for one in calls:
            for other in calls:
                answer = are_same(code(slots=slots, calls=[one]), code(slots=slots, calls=[other]))
                self.assertEqual(answer, [1 if one == other else 0])

    def test_lengths_of_lists_are_told_apart(self):
        """The same numbers in another part."""
        self.assertEqual(are_same(code(slots=[shape(1, 2), shape(3)]), code(slots=[shape(1), shape(2, 3)])), [0])
        one = code(main=[ins("fail"), END], pieces=[piece(body=[END])])
        other = code(main=[END], pieces=[piece(body=[ins("fail"), END])])
        self.assertEqual(are_same(one, other), [0])
        one = code(pieces=[piece(body=[ins("fail"), END]), piece(body=[END])])
        other = code(pieces=[piece(body=[END]), piece(body=[ins("fail"), END])])
        self.assertEqual(are_same(one, other), [0])

    INSTRUCTIONS = (
        (ins("two", kind=8, aux=1, dst=2, a=3, b=4), dict(kind=7, aux=2, dst=3, a=4, b=5)),
        (ins("fused", kind=9, dst=1, a=2, b=3, c=4), dict(kind=10, c=255)),
        (ins("const", kind=1, dst=1, imm=5), dict(kind=5, dst=9, imm=18446744073709551615)),
        (ins("skip", to=1), dict(to=2)),
        (ins("mantissa", kind=9, dst=1, a=2), dict(op=10)),
        (ins("fail", imm=2), dict(imm=3)),
    )

    def test_instructions_of_main(self):
        for one, others in self.INSTRUCTIONS:
            for field, number in others.items():
                told = code(main=[one, ins("fail"), END])
                self.assertEqual(are_same(told, changed(told, "main", 0, field, to=number)), [0], (one, field))
                self.assertEqual(are_same(told, changed(told, "main", 0, "where", to=9)), [1])

    def test_instructions_of_bodies(self):
        for one, others in self.INSTRUCTIONS:
            for field, number in dict(others, mask=63).items():
                told = code(pieces=[piece(), piece(body=[one, ins("fail"), END])])
                other = changed(told, "pieces", 1, "body", 0, field, to=number)
                self.assertEqual(are_same(told, other), [0], (one, field))

    def test_more_or_fewer_instructions(self):
        told = code(main=[ins("fail"), END], pieces=[piece(body=[ins("fail"), END])])
        for body in ([END], [ins("fail"), ins("fail"), END]):
            self.assertEqual(are_same(told, changed(told, "main", to=body)), [0])
            self.assertEqual(are_same(told, changed(told, "pieces", 0, "body", to=body)), [0])

    def test_loops(self):
        main = [ins("loop", dst=1, imm=2, to=2), ins("back", dst=1, imm=2, to=1), END]
        told = code(main=main)
        other = [dict(one, imm=3) if one["op"] else one for one in main]
        self.assertEqual(are_same(told, code(main=other)), [0])
        other = [dict(one, dst=3) if one["op"] else one for one in main]
        self.assertEqual(are_same(told, code(main=other)), [0])


class ByTheWords(unittest.TestCase):
    def test_each_byte_changed(self):
        """Each byte of one code's bytes in turn: what load refuses is refused alike, the rest is the same or not."""
        ones = zeros = refusals = 0
        for told in (RICH, EXAMPLE):
            row = to_bytes(told)
            for spot in range(len(row)):
                for change in (1, 2, 4, 129):
                    other = row[:spot] + [row[spot] ^ change] + row[spot + 1:]
                    judged = ask(load(other))[0]
                    found = ask(load(row), same(other), BYTES)
                    expected = judged if judged != [0] else same_of(told, plain(code_of_bytes(other)))
                    self.assertEqual(found, [[0], expected, [0] + row], (spot, change))
                    ones += expected == [1]
                    zeros += expected == [0]
                    refusals += expected[0] == -2
        # Enough of each for the comparison to tell something.
        self.assertGreater(ones, 300)
        self.assertGreater(zeros, 100)
        self.assertGreater(refusals, 1000)

    def test_random_codes(self):
        source = random.Random(12)
        found = {0: 0, 1: 0}
        for step in range(150):
            one = random_code(source)
            self.assertEqual(are_same(one, one), [1])
            other = renumbered(source, one)
            self.assertEqual(same_of(one, other), [1])
            self.assertEqual(are_same(one, other), [1])
            third = random_code(source)
            expected = same_of(one, third)
            self.assertEqual(are_same(one, third), expected)
            found[expected[0]] += 1
        self.assertGreater(found[0], 100)


def renumbered(source, told):
    """The same code with other where, other places of pieces, and its names mixed with others."""
    other = own_copy(told)
    for body in bodies_of(other):
        for one in body:
            one["where"] = source.randrange(4294967296)
    for one in other["pieces"]:
        one["place"] = source.randrange(4294967296)
    order = list(range(len(told["names"])))
    source.shuffle(order)
    other["names"] = [[7]] + [told["names"][number] for number in order] + [[9, 9]]
    for one in other["main"]:
        if one["op"] == 24:
            one["imm"] = 1 + order.index(one["imm"])
    return other


class Refused(unittest.TestCase):
    BAD = [
        ([], [-2, 1, 0]), ([76, 87, 67], [-2, 1, 0]), (to_bytes(RICH) + [0], [-2, 1, 0]),
        (to_bytes(RICH)[:-1], [-2, 1, 0]), (list(example_text().encode()), [-2, 1, 0]),
        (to_bytes(code(slots=[shape(1), shape(13)])), [-2, 2, 1]), (to_bytes(code(names=[b""])), [-2, 2, 0]),
        (to_bytes(code(d=3, slots=[shape(1)])), [-2, 2, 1]),
        (to_bytes(code(slots=[shape(3, 4)], calls=[call(1, 10, 3, results="s0"), call(0, 0)])), [-2, 3, 1]),
        (to_bytes(code(main=[ins("fail"), ins("place"), END])), [-2, 4, 1]),
        (to_bytes(code(main=[ins("end", 1)])), [-2, 4, 0]),
        (to_bytes(code(main=[ins("fail"), END], pieces=[piece(body=[END, END])])), [-2, 5, 2]),
    ]

    def test_bytes_that_are_not_good(self):
        for held in (EXAMPLE, RICH, code()):
            for row, answer in self.BAD:
                self.assertEqual(ask(load(to_bytes(held)), same(row))[1], answer)

    def test_what_is_held_stays(self):
        before = ask(load(to_bytes(RICH)), TEXT, BYTES)[1:]
        others = [row for row, answer in self.BAD] + [to_bytes(EXAMPLE), to_bytes(code()), to_bytes(RICH)]
        for row in others:
            self.assertEqual(ask(load(to_bytes(RICH)), same(row), TEXT, BYTES)[2:], before)
        found = ask(load(to_bytes(RICH)), *[same(row) for row in others], same(to_bytes(RICH)), TEXT, BYTES)
        self.assertEqual(found[1:], [answer for row, answer in self.BAD] + [[0], [0], [1], [1]] + before)

    def test_no_code_is_held(self):
        for row in (to_bytes(EXAMPLE), to_bytes(code(main=[])), []):
            self.assertEqual(ask(same(row), load([]), same(row), read(""), same(row))[::2], [[-8]] * 3)

    def test_same_holds_nothing(self):
        self.assertEqual(ask(same(to_bytes(EXAMPLE)), [3], TEXT, BYTES), [[-8]] * 4)


if __name__ == "__main__":
    unittest.main()
