"""What 1: which bytes are some code's."""

import unittest

from helper import (
    END, EXAMPLE, RICH, ask, bytes_of_call, bytes_of_instruction, bytes_of_piece, call, code, ins, load, low_first,
    piece, shape, to_bytes,
)

NO_CODE = [-2, 1, 0]


def loaded(row):
    return ask(load(row))[0]


def head(slots=0, d=0, names=0, pieces=0, calls=0, main=1):
    row = [76, 87, 67, 49]
    for number in (slots, d, names, pieces, calls, main):
        row += low_first(number, 4)
    return row


ONE_END = bytes_of_instruction(END)


class Whole(unittest.TestCase):
    def test_least_code(self):
        self.assertEqual(loaded(head() + ONE_END), [0])

    def test_cut_short_anywhere(self):
        for told in (EXAMPLE, RICH):
            row = to_bytes(told)
            self.assertEqual(loaded(row), [0])
            for length in range(len(row)):
                self.assertEqual(loaded(row[:length]), NO_CODE, length)

    def test_one_byte_too_many(self):
        for told in (EXAMPLE, RICH, code()):
            for byte in (0, 10, 255):
                self.assertEqual(loaded(to_bytes(told) + [byte]), NO_CODE)

    def test_an_instruction_too_many(self):
        self.assertEqual(loaded(head() + ONE_END + ONE_END), NO_CODE)

    def test_beginning(self):
        row = to_bytes(code())
        for spot in range(4):
            for change in (-1, 1):
                self.assertEqual(loaded(row[:spot] + [row[spot] + change] + row[spot + 1:]), NO_CODE)

    def test_no_bytes(self):
        self.assertEqual(loaded([]), NO_CODE)

    def test_a_text_is_no_bytes(self):
        self.assertEqual(loaded(list(b"code 0\nmain\nend 0 0 0 0 0 0 0 0 0 0\n")), NO_CODE)

    def test_lowest_byte_first(self):
        row = to_bytes(code(slots=[shape(1, 515)], main=[ins("fail", imm=16909060, where=258), END]))
        found = ask(load(row), [4, 0], [6, 0, 0])
        self.assertEqual(found, [[0], [0, 1, 515], [0, 17, 0, 0, 0, 0, 0, 0, 0, 258, 16909060, 0]])


class HowMany(unittest.TestCase):
    def test_slots(self):
        for count, answer in ((256, [0]), (257, NO_CODE)):
            self.assertEqual(loaded(to_bytes(code(slots=[shape(1)] * count))), answer)

    def test_names(self):
        for count, answer in ((256, [0]), (257, NO_CODE)):
            self.assertEqual(loaded(to_bytes(code(names=[b"a"] * count))), answer)

    def test_pieces(self):
        one = piece(results=[(1, [], 0)])
        for count, answer in ((256, [0]), (257, NO_CODE)):
            self.assertEqual(loaded(to_bytes(code(pieces=[one] * count))), answer)

    def test_calls(self):
        # Longer than any row that is handed in: only so the bound itself can be seen.
        one = call(1, 10, 3, results="s0")
        for count, answer in ((4096, [0]), (4097, NO_CODE)):
            self.assertEqual(loaded(to_bytes(code(slots=[shape(3, 4)], calls=[one] * count))), answer)

    def test_instructions_of_main(self):
        fail = bytes_of_instruction(ins("fail"))
        self.assertEqual(loaded(head(main=65536) + fail * 65535 + ONE_END), [0])
        self.assertEqual(loaded(head(main=65537) + fail * 65536 + ONE_END), NO_CODE)

    def test_instructions_of_all_bodies_together(self):
        fail = bytes_of_instruction(ins("fail"))
        for length, answer in ((65533, [0]), (65534, NO_CODE)):
            one = bytes_of_piece(piece())
            long = one[:-4] + low_first(length, 4)
            row = head(pieces=2, main=2) + long + one + fail + ONE_END + fail * (length - 1) + ONE_END + ONE_END
            self.assertEqual(loaded(row), answer)

    def test_largest_counts(self):
        for count in ("slots", "names", "pieces", "calls", "main"):
            self.assertEqual(loaded(head(**{count: 4294967295}) + ONE_END), NO_CODE, count)

    def test_a_piece_with_too_many_instructions(self):
        one = bytes_of_piece(piece())
        for length in (65536, 65537, 4294967295):
            row = head(pieces=1) + one[:-4] + low_first(length, 4) + ONE_END + ONE_END
            self.assertEqual(loaded(row), NO_CODE)

    def test_lengths_of_a_slot(self):
        self.assertEqual(loaded(to_bytes(code(slots=[shape(1, 1, 1, 1, 1)]))), [0])
        self.assertEqual(loaded(to_bytes(code(slots=[shape(1, 1, 1, 1, 1, 1)]))), NO_CODE)

    def test_lengths_of_an_input(self):
        self.assertEqual(loaded(to_bytes(code(pieces=[piece(inputs=[shape(1, 1, 1, 1, 1)])]))), [0])
        self.assertEqual(loaded(to_bytes(code(pieces=[piece(inputs=[shape(1, 1, 1, 1, 1, 1)])]))), NO_CODE)

    def test_lengths_of_a_result(self):
        self.assertEqual(loaded(to_bytes(code(pieces=[piece(results=[(1, [1] * 4, 0)])]))), [0])
        self.assertEqual(loaded(to_bytes(code(pieces=[piece(results=[(1, [1] * 5, 0)])]))), NO_CODE)

    def test_axes(self):
        self.assertEqual(loaded(to_bytes(code(pieces=[piece(axes=[1] * 4)]))), [0])
        self.assertEqual(loaded(to_bytes(code(pieces=[piece(axes=[1] * 5)]))), NO_CODE)

    def test_inputs(self):
        self.assertEqual(loaded(to_bytes(code(pieces=[piece(inputs=[shape(1)] * 8)]))), [0])
        self.assertEqual(loaded(to_bytes(code(pieces=[piece(inputs=[shape(1)] * 9)]))), NO_CODE)

    def test_results(self):
        self.assertEqual(loaded(to_bytes(code(pieces=[piece(results=[(1, [], 0)] * 8)]))), [0])
        self.assertEqual(loaded(to_bytes(code(pieces=[piece(results=[(1, [], 0)] * 9)]))), NO_CODE)

    def test_operands_and_results_of_a_call(self):
        told = piece(inputs=[shape(1)] * 8, results=[(1, [], 0)] * 8)
        eight = "n0 n1 n2 n3 n4 n5 n6 n7"
        self.assertEqual(loaded(to_bytes(code(pieces=[told], calls=[call(0, 0, 0, 0, 0, eight, eight)]))), [0])
        for operands, results in ((eight + " n8", eight), (eight, eight + " n8")):
            row = to_bytes(code(pieces=[told], calls=[call(0, 0, 0, 0, 0, operands, results)]))
            self.assertEqual(loaded(row), NO_CODE)

    def test_eight_operands_that_are_wrong_are_some_codes(self):
        eight = "n0 n1 n2 n3 n4 n5 n6 n7"
        self.assertEqual(loaded(to_bytes(code(calls=[call(1, 10, 3, 0, 0, eight, eight)]))), [-2, 3, 0])


class OneOfTwo(unittest.TestCase):
    def test_flag_of_a_piece(self):
        for flag, answer in ((0, [0]), (1, [0]), (2, NO_CODE), (255, NO_CODE)):
            self.assertEqual(loaded(to_bytes(code(pieces=[piece(flag=flag)]))), answer)

    def test_sort_of_a_call(self):
        fold = bytes_of_call(call(1, 0, 1, 0, 255, "s0", "n0"))
        for sort, answer in ((0, [-2, 3, 0]), (1, [0]), (2, NO_CODE), (255, NO_CODE)):
            row = head(slots=1, calls=1) + [1, 1, 4, 0, 0, 0] + [sort] + fold[1:] + ONE_END
            self.assertEqual(loaded(row), answer)

    def test_first_number_of_a_hold(self):
        told = code(slots=[shape(1, 4)], calls=[call(1, 0, 1, 0, 255, "s0", "n0")])
        row = to_bytes(told)
        operand = len(row) - len(ONE_END) - 6
        for spot, good in ((operand, 0), (operand + 3, 1)):
            self.assertEqual(row[spot], good)
            for first in range(256):
                answer = [0] if first == good else [-2, 3, 0] if first < 2 else NO_CODE
                self.assertEqual(loaded(row[:spot] + [first] + row[spot + 1:]), answer)


class AllElseAny(unittest.TestCase):
    def test_wrong_numbers_are_still_some_codes(self):
        some = [
            (code(d=4294967295), [-2, 2, 0]), (code(slots=[shape(255, 4294967295)]), [-2, 2, 0]),
            (code(names=[b""]), [-2, 2, 0]), (code(names=[b"\x00" * 255]), [-2, 2, 0]),
            (code(pieces=[piece(axes=[])]), [-2, 2, 0]), (code(pieces=[piece(results=[])]), [-2, 2, 0]),
            (code(pieces=[piece(results=[(1, [], 255)])]), [-2, 2, 0]),
            (code(calls=[call(1, 255, 255, 18446744073709551615, 18446744073709551615, "s65535", "n65535")]),
             [-2, 3, 0]),
            (code(calls=[call(0, 0)]), [-2, 3, 0]),
            (code(main=[ins(255, 4294967295, kind=255, mask=255, aux=255, dst=65535, a=65535, b=65535, c=65535,
                            where=4294967295, imm=18446744073709551615, to=4294967295)]), [-2, 4, 0]),
            (code(main=[]), [-2, 5, 0]), (code(pieces=[piece(body=[])]), [-2, 5, 1]),
        ]
        for told, answer in some:
            self.assertEqual(loaded(to_bytes(told)), answer)

    def test_place_of_a_piece_is_any(self):
        for place in (0, 1, 4294967295):
            self.assertEqual(loaded(to_bytes(code(pieces=[piece(place=place)]))), [0])


if __name__ == "__main__":
    unittest.main()
