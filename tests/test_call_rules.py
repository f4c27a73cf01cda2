"""What 3: calls of pieces and of functions, as bytes and as a text."""

import unittest

from helper import call, code, judged, piece, shape

# 0 to 3: rows of four, 4 of five, 5 to 7: two by three and three by two, 8: three by five, 9: two by five,
# 10, 11: places, 12: one cell without lengths, 13: the same of kind 3.
SLOTS = [
    shape(9, 4), shape(9, 4), shape(9, 4), shape(1, 4), shape(9, 5), shape(9, 2, 3), shape(9, 3, 2), shape(9, 2, 3),
    shape(9, 3, 5), shape(9, 2, 5), shape(3, 4), shape(3, 5), shape(9), shape(3),
]
# Of kind 9: 14 holds 2, 15 holds 3, 16 is 5 by 3, 17 is 2 by 3 by 5, 18 is 2 by 5, 19 is 4 by 3, 20 is 2 by 6.
SLOTS += [shape(9, 2), shape(9, 3), shape(9, 5, 3), shape(9, 2, 3, 5), shape(9, 2, 5), shape(9, 4, 3), shape(9, 2, 6)]
# 21 to 23: truths of 4 and of 2 by 3 and 3 by 2. 24: kind 1, two by three. 25: four by three of kind 1. 26: 0 cells.
SLOTS += [shape(0, 4), shape(0, 2, 3), shape(0, 3, 2), shape(1, 2, 3), shape(1, 4, 3), shape(9, 0)]
# 27: kind 3, three by two; 28: 2 by 0; 29: 0 by 7; 30: six; 31: eight; 32: kind 0 of 4 again.
SLOTS += [shape(3, 3, 2), shape(9, 2, 0), shape(9, 0, 7), shape(9, 6), shape(9, 8), shape(0, 4)]
GOOD_CALL = call(1, 10, 3, results="s10")


class Judged(unittest.TestCase):
    pieces = ()

    def answer(self, told):
        return judged(code(slots=SLOTS, pieces=self.pieces, calls=[GOOD_CALL, told, GOOD_CALL]))

    def good(self, *told, **more):
        self.assertEqual(self.answer(call(*told, **more)), [0], (told, more))

    def wrong(self, *told, **more):
        self.assertEqual(self.answer(call(*told, **more)), [-2, 3, 1], (told, more))


class Pieces(Judged):
    pieces = [
        piece(inputs=[shape(9, 4), shape(3), shape(9, 2, 3)], results=[(9, [4], 0), (3, [], 0), (9, [4], 0), (4, [], 1)]),
        piece(),
        piece(inputs=[shape(9, 4), shape(9, 4)], results=[(9, [4], 0)]),
    ]

    def test_good(self):
        self.good(0, 0, 0, 0, 0, "s0 n7 s5", "s1 n7 s2 n8")
        self.good(0, 0, 0, 0, 0, "s0 n0 s7", "s1 n1023 s2 n0")
        self.good(0, 1, 0, 0, 0, "", "s0")

    def test_which(self):
        self.good(0, 2, 0, 0, 0, "s0 s0", "s1")
        self.wrong(0, 3, 0, 0, 0, "s0 s0", "s1")
        self.wrong(0, 255, 0, 0, 0, "", "s0")

    def test_no_pieces(self):
        self.assertEqual(judged(code(slots=SLOTS, calls=[call(0, 0, results="s0")])), [-2, 3, 0])

    def test_kind_u_v(self):
        self.wrong(0, 1, 1, 0, 0, "", "s0")
        self.wrong(0, 1, 9, 0, 0, "", "s0")
        self.wrong(0, 1, 0, 1, 0, "", "s0")
        self.wrong(0, 1, 0, 0, 1, "", "s0")
        self.wrong(0, 1, 0, 0, 18446744073709551615, "", "s0")

    def test_how_many_operands(self):
        self.wrong(0, 0, 0, 0, 0, "s0 n7", "s1 n7 s2 n8")
        self.wrong(0, 0, 0, 0, 0, "s0 n7 s5 n7", "s1 n7 s2 n8")
        self.wrong(0, 1, 0, 0, 0, "n0", "s0")
        self.wrong(0, 2, 0, 0, 0, "", "s0")

    def test_how_many_results(self):
        self.wrong(0, 0, 0, 0, 0, "s0 n7 s5", "s1 n7 s2")
        self.wrong(0, 0, 0, 0, 0, "s0 n7 s5", "s1 n7 s2 n8 n9")
        self.wrong(0, 1, 0, 0, 0, "", "")
        self.wrong(0, 1, 0, 0, 0, "", "s0 s1")

    def test_operands_that_do_not_fit(self):
        for operands in ("s3 n7 s5", "s4 n7 s5", "n0 n7 s5", "s0 s13 s5", "s0 s12 s5", "s0 n7 s6", "s0 n7 s24", "s0 n7 n5",
                         "n7 s0 s5", "s26 n7 s5"):
            self.wrong(0, 0, 0, 0, 0, operands, "s1 n7 s2 n8")

    def test_results_that_do_not_fit(self):
        for results in ("s3 n7 s2 n8", "s4 n7 s2 n8", "n1 n7 s2 n8", "s1 s13 s2 n8", "s1 n7 n2 n8", "s1 n7 s2 s12",
                        "s1 n7 s2 s3", "s26 n7 s2 n8"):
            self.wrong(0, 0, 0, 0, 0, "s0 n7 s5", results)

    def test_holds_that_are_there(self):
        self.good(0, 0, 0, 0, 0, "s0 n1023 s5", "s1 n1023 s2 n8")
        self.wrong(0, 0, 0, 0, 0, "s0 n1024 s5", "s1 n7 s2 n8")
        self.wrong(0, 0, 0, 0, 0, "s0 n7 s5", "s1 n1024 s2 n8")
        self.wrong(0, 0, 0, 0, 0, "s33 n7 s5", "s1 n7 s2 n8")
        self.wrong(0, 0, 0, 0, 0, "s0 n7 s5", "s65535 n7 s2 n8")
        self.wrong(0, 0, 0, 0, 0, "s0 n65535 s5", "s1 n7 s2 n8")

    def test_two_results_are_not_the_same_hold(self):
        self.wrong(0, 0, 0, 0, 0, "s0 n7 s5", "s1 n7 s1 n8")
        self.wrong(0, 0, 0, 0, 0, "s0 n7 s5", "s1 n8 s2 n8")
        self.good(0, 0, 0, 0, 0, "s0 n7 s5", "s1 n1 s2 n2")

    def test_a_result_slot_is_no_operand(self):
        self.wrong(0, 0, 0, 0, 0, "s0 n7 s5", "s0 n7 s2 n8")
        self.wrong(0, 0, 0, 0, 0, "s0 n7 s5", "s1 n7 s0 n8")
        self.wrong(0, 2, 0, 0, 0, "s0 s1", "s1")
        self.good(0, 2, 0, 0, 0, "s0 s1", "s2")

    def test_a_result_place_may_be_an_operand(self):
        self.good(0, 0, 0, 0, 0, "s0 n7 s5", "s1 n9 s2 n7")

    def test_an_operand_may_stand_twice(self):
        self.good(0, 2, 0, 0, 0, "s1 s1", "s2")


class Functions(Judged):
    def test_which(self):
        self.good(1, 10, 3, 0, 0, "", "s10")
        for which in (11, 12, 255):
            self.wrong(1, which, 3, 0, 0, "", "s10")

    def test_kind(self):
        for kind, number in ((0, 21), (9, 0), (1, 3), (3, 10)):
            self.good(1, 9, kind, 0, 0, "n0", f"s{number}")
        slots = [shape(kind, 4) for kind in range(13)]
        for kind in range(13):
            told = code(slots=slots, calls=[call(1, 9, kind, 0, 0, "n0", f"s{kind}")])
            self.assertEqual(judged(told), [0])
        self.wrong(1, 9, 13, 0, 0, "n0", "s0")
        self.wrong(1, 9, 255, 0, 0, "n0", "s0")

    def test_one_result(self):
        self.wrong(1, 10, 3, 0, 0, "", "")
        self.wrong(1, 10, 3, 0, 0, "", "s10 s11")
        self.wrong(1, 0, 9, 0, 255, "s0", "n0 n1")
        self.wrong(1, 9, 9, 0, 0, "n0", "s0 s0")

    def test_holds_that_are_there(self):
        self.good(1, 9, 9, 0, 0, "n1023", "s0")
        self.wrong(1, 9, 9, 0, 0, "n1024", "s0")
        self.good(1, 0, 9, 0, 255, "s0", "n1023")
        self.wrong(1, 0, 9, 0, 255, "s0", "n1024")
        self.wrong(1, 0, 9, 0, 255, "s33", "n0")
        self.wrong(1, 10, 3, 0, 0, "", "s33")
        self.wrong(1, 10, 3, 0, 0, "", "s65535")

    def test_a_result_slot_is_no_operand(self):
        self.wrong(1, 3, 9, 0, 0, "s0", "s0")
        self.wrong(1, 8, 9, 0, 0, "s5", "s5")
        self.wrong(1, 6, 9, 0, 0, "s0", "s0")
        # Two by none with none by two: the sum of both is one of them.
        slots = [shape(9, 2, 0), shape(9, 2, 0), shape(9, 2, 0)]
        for result, answer in (("s0", [-2, 3, 0]), ("s1", [-2, 3, 0]), ("s2", [0])):
            told = code(slots=slots, calls=[call(1, 7, 9, 1, 0, "s0 s1", result)])
            self.assertEqual(judged(told), answer)

    def test_fold_of_all(self):
        for u in (0, 2, 3):
            self.good(1, 0, 9, u, 255, "s0", "n0")
            self.good(1, 0, 9, u, 255, "s17", "n0")
        for u in (1, 4, 255, 18446744073709551615):
            self.wrong(1, 0, 9, u, 255, "s0", "n0")
        self.good(1, 0, 1, 0, 255, "s3", "n0")
        self.good(1, 0, 9, 0, 255, "s26", "n0")
        self.wrong(1, 0, 1, 0, 255, "s0", "n0")
        self.wrong(1, 0, 0, 0, 255, "s21", "n0")
        self.wrong(1, 0, 9, 0, 255, "s12", "n0")
        self.wrong(1, 0, 9, 0, 255, "s0", "s12")
        self.wrong(1, 0, 9, 0, 255, "s5", "s14")
        self.wrong(1, 0, 9, 0, 254, "s0", "n0")
        self.wrong(1, 0, 9, 0, 256, "s0", "n0")

    def test_fold_of_one_length(self):
        self.good(1, 0, 9, 0, 0, "s0", "n0")
        self.wrong(1, 0, 9, 0, 1, "s0", "n0")
        self.wrong(1, 0, 9, 0, 0, "s0", "s12")
        self.good(1, 0, 9, 2, 0, "s5", "s15")
        self.good(1, 0, 9, 3, 1, "s5", "s14")
        self.wrong(1, 0, 9, 0, 0, "s5", "s14")
        self.wrong(1, 0, 9, 0, 1, "s5", "s15")
        self.wrong(1, 0, 9, 0, 0, "s5", "n0")
        self.wrong(1, 0, 9, 0, 2, "s5", "s15")
        self.wrong(1, 0, 9, 0, 2, "s5", "s14")
        self.wrong(1, 0, 9, 0, 2, "s5", "s7")
        self.wrong(1, 0, 9, 0, 1, "s0", "s1")
        self.wrong(1, 0, 9, 0, 254, "s0", "s1")
        self.wrong(1, 0, 9, 1, 0, "s5", "s15")
        self.wrong(1, 0, 1, 0, 0, "s24", "s15")
        self.wrong(1, 0, 0, 0, 0, "s22", "s21")
        self.good(1, 0, 9, 0, 1, "s17", "s9")
        self.good(1, 0, 9, 0, 2, "s17", "s5")
        self.good(1, 0, 9, 0, 0, "s17", "s8")
        self.wrong(1, 0, 9, 0, 3, "s17", "s5")
        self.wrong(1, 0, 9, 0, 18446744073709551615, "s17", "s5")

    def test_fold_operands(self):
        self.wrong(1, 0, 9, 0, 255, "", "n0")
        self.wrong(1, 0, 9, 0, 255, "s0 s1", "n0")
        self.wrong(1, 0, 9, 0, 255, "n1", "n0")

    def test_product(self):
        self.good(1, 1, 9, 0, 0, "s5 s8", "s9")
        self.good(1, 1, 9, 0, 0, "s7 s8", "s18")
        self.wrong(1, 1, 9, 0, 0, "s5 s7", "s9")
        self.wrong(1, 1, 9, 0, 0, "s5 s9", "s18")
        self.wrong(1, 1, 9, 0, 0, "s20 s8", "s9")
        self.wrong(1, 1, 9, 0, 0, "s8 s5", "s9")
        self.wrong(1, 1, 9, 0, 0, "s5 s8", "s5")
        self.wrong(1, 1, 9, 0, 0, "s5 s8", "s16")
        self.wrong(1, 1, 9, 0, 0, "s24 s8", "s9")
        self.wrong(1, 1, 1, 0, 0, "s24 s8", "s9")
        self.wrong(1, 1, 1, 0, 0, "s5 s8", "s9")
        self.wrong(1, 1, 9, 0, 0, "s0 s8", "s9")
        self.wrong(1, 1, 9, 0, 0, "s5 s15", "s14")
        self.wrong(1, 1, 9, 0, 0, "s17 s8", "s9")
        self.wrong(1, 1, 9, 0, 0, "s5 s8", "n0")
        self.wrong(1, 1, 9, 0, 0, "s5 n0", "s9")
        self.wrong(1, 1, 9, 0, 0, "n0 s8", "s9")
        self.wrong(1, 1, 9, 0, 0, "s5", "s9")
        self.wrong(1, 1, 9, 0, 0, "s5 s8 s8", "s9")
        self.wrong(1, 1, 9, 1, 0, "s5 s8", "s9")
        self.wrong(1, 1, 9, 0, 1, "s5 s8", "s9")

    def test_product_of_a_slot_with_itself(self):
        for kind, answer in ((1, [0]), (12, [0]), (0, [-2, 3, 0])):
            slots = [shape(kind, 3, 3), shape(kind, 3, 3)]
            told = code(slots=slots, calls=[call(1, 1, kind, 0, 0, "s0 s0", "s1")])
            self.assertEqual(judged(told), answer)

    def test_product_with_nothing_between(self):
        told = code(slots=SLOTS, calls=[call(1, 1, 9, 0, 0, "s28 s29", "s33")])
        told["slots"] = SLOTS + [shape(9, 2, 7)]
        self.assertEqual(judged(told), [0])

    def test_turn(self):
        self.good(1, 2, 9, 0, 0, "s5", "s6")
        self.good(1, 2, 0, 0, 0, "s22", "s23")
        self.wrong(1, 2, 9, 0, 0, "s5", "s7")
        self.wrong(1, 2, 9, 0, 0, "s5", "s23")
        self.wrong(1, 2, 9, 0, 0, "s24", "s6")
        self.wrong(1, 2, 1, 0, 0, "s5", "s6")
        self.wrong(1, 2, 9, 0, 0, "s0", "s1")
        self.wrong(1, 2, 9, 0, 0, "s17", "s6")
        self.wrong(1, 2, 9, 0, 0, "s5", "n0")
        self.wrong(1, 2, 9, 0, 0, "n0", "s6")
        self.wrong(1, 2, 9, 0, 0, "", "s6")
        self.wrong(1, 2, 9, 0, 0, "s5 s5", "s6")
        self.wrong(1, 2, 9, 1, 0, "s5", "s6")
        self.wrong(1, 2, 9, 0, 1, "s5", "s6")

    def test_sorted(self):
        self.good(1, 3, 9, 0, 0, "s0", "s1")
        self.good(1, 3, 0, 0, 0, "s21", "s32")
        self.wrong(1, 3, 9, 0, 0, "s0", "s4")
        self.wrong(1, 3, 9, 0, 0, "s0", "s3")
        self.wrong(1, 3, 1, 0, 0, "s0", "s1")
        self.wrong(1, 3, 9, 0, 0, "s5", "s7")
        self.wrong(1, 3, 9, 0, 0, "s12", "s1")
        self.wrong(1, 3, 9, 0, 0, "s0", "n0")
        self.wrong(1, 3, 9, 0, 0, "n0", "s1")
        self.wrong(1, 3, 9, 0, 0, "", "s1")
        self.wrong(1, 3, 9, 0, 0, "s0 s2", "s1")
        self.wrong(1, 3, 9, 1, 0, "s0", "s1")
        self.wrong(1, 3, 9, 0, 1, "s0", "s1")

    def test_order(self):
        self.good(1, 4, 9, 0, 0, "s0", "s10")
        self.good(1, 4, 0, 0, 0, "s21", "s10")
        self.wrong(1, 4, 9, 0, 0, "s0", "s11")
        self.wrong(1, 4, 9, 0, 0, "s0", "s1")
        self.wrong(1, 4, 3, 0, 0, "s0", "s10")
        self.wrong(1, 4, 9, 0, 0, "s5", "s27")
        self.wrong(1, 4, 9, 0, 0, "s0", "n0")
        self.wrong(1, 4, 9, 0, 0, "n0", "s10")
        self.wrong(1, 4, 9, 0, 0, "", "s10")
        self.wrong(1, 4, 9, 0, 0, "s0 s1", "s10")
        self.wrong(1, 4, 9, 1, 0, "s0", "s10")
        self.wrong(1, 4, 9, 0, 1, "s0", "s10")

    def test_pick(self):
        self.good(1, 5, 9, 0, 0, "s4 s10", "s0")
        self.good(1, 5, 9, 0, 0, "s5 s10", "s19")
        self.good(1, 5, 9, 0, 0, "s5 s11", "s16")
        self.wrong(1, 5, 9, 0, 0, "s5 s10", "s5")
        self.wrong(1, 5, 9, 0, 0, "s5 s10", "s16")
        self.wrong(1, 5, 9, 0, 0, "s5 s10", "s25")
        self.wrong(1, 5, 9, 0, 0, "s6 s10", "s19")
        self.wrong(1, 5, 1, 0, 0, "s24 s10", "s19")
        self.good(1, 5, 1, 0, 0, "s24 s10", "s25")
        self.wrong(1, 5, 9, 0, 0, "s24 s10", "s19")
        self.wrong(1, 5, 9, 0, 0, "s12 s10", "s0")
        self.wrong(1, 5, 9, 0, 0, "s5 s0", "s19")
        self.wrong(1, 5, 9, 0, 0, "s5 s13", "s15")
        self.wrong(1, 5, 9, 0, 0, "s5 s27", "s16")
        self.wrong(1, 5, 9, 0, 0, "s4 s10", "n0")
        self.wrong(1, 5, 9, 0, 0, "n0 s10", "s0")
        self.wrong(1, 5, 9, 0, 0, "s4 n0", "s0")
        self.wrong(1, 5, 9, 0, 0, "s4", "s0")
        self.wrong(1, 5, 9, 0, 0, "s4 s10 s10", "s0")
        self.wrong(1, 5, 9, 1, 0, "s4 s10", "s0")
        self.wrong(1, 5, 9, 0, 1, "s4 s10", "s0")

    def test_part(self):
        self.good(1, 6, 9, 0, 0, "s0", "s1")
        self.good(1, 6, 9, 0, 18446744073709551615, "s0", "s4")
        self.good(1, 6, 9, 0, 7, "s0", "s26")
        self.good(1, 6, 9, 1, 0, "s5", "s9")
        self.good(1, 6, 9, 1, 0, "s5", "s28")
        self.good(1, 6, 9, 0, 0, "s5", "s19")
        self.wrong(1, 6, 9, 0, 0, "s5", "s9")
        self.wrong(1, 6, 9, 1, 0, "s5", "s19")
        self.wrong(1, 6, 9, 1, 0, "s0", "s1")
        self.wrong(1, 6, 9, 2, 0, "s5", "s7")
        self.wrong(1, 6, 9, 18446744073709551615, 0, "s5", "s7")
        self.wrong(1, 6, 9, 0, 0, "s0", "s3")
        self.wrong(1, 6, 1, 0, 0, "s0", "s3")
        self.wrong(1, 6, 9, 0, 0, "s3", "s0")
        self.wrong(1, 6, 9, 0, 0, "s0", "s5")
        self.wrong(1, 6, 9, 0, 0, "s0", "s12")
        self.wrong(1, 6, 9, 0, 0, "s12", "s0")
        self.wrong(1, 6, 9, 0, 0, "s0", "n0")
        self.wrong(1, 6, 9, 0, 0, "n0", "s0")
        self.wrong(1, 6, 9, 0, 0, "", "s0")
        self.wrong(1, 6, 9, 0, 0, "s0 s1", "s2")

    def test_join(self):
        self.good(1, 7, 9, 0, 0, "s0 s1", "s31")
        self.good(1, 7, 9, 0, 0, "s0 s0", "s31")
        self.good(1, 7, 9, 0, 0, "s15 s15", "s30")
        self.good(1, 7, 9, 1, 0, "s5 s7", "s20")
        self.wrong(1, 7, 9, 0, 0, "s0 s1", "s30")
        self.wrong(1, 7, 9, 0, 0, "s0 s4", "s31")
        self.wrong(1, 7, 9, 1, 0, "s0 s1", "s31")
        self.wrong(1, 7, 9, 2, 0, "s5 s7", "s20")
        self.wrong(1, 7, 9, 0, 0, "s5 s7", "s20")
        self.good(1, 7, 9, 0, 0, "s5 s5", "s19")
        self.wrong(1, 7, 9, 0, 0, "s5 s9", "s19")
        self.wrong(1, 7, 9, 1, 0, "s5 s8", "s20")
        self.wrong(1, 7, 9, 1, 0, "s24 s5", "s20")
        self.wrong(1, 7, 9, 1, 0, "s5 s24", "s20")
        self.wrong(1, 7, 1, 1, 0, "s5 s7", "s20")
        self.wrong(1, 7, 9, 0, 0, "s12 s12", "s14")
        self.wrong(1, 7, 9, 0, 0, "s0 s5", "s31")
        self.wrong(1, 7, 9, 0, 0, "s5 s0", "s19")
        self.wrong(1, 7, 9, 0, 0, "s0 s12", "s1")
        self.wrong(1, 7, 9, 0, 0, "s0 s1", "n0")
        self.wrong(1, 7, 9, 0, 0, "n0 s1", "s31")
        self.wrong(1, 7, 9, 0, 0, "s0 n1", "s31")
        self.wrong(1, 7, 9, 0, 0, "s0", "s31")
        self.wrong(1, 7, 9, 0, 0, "s0 s1 s2", "s31")
        self.wrong(1, 7, 9, 0, 1, "s0 s1", "s31")

    def test_as(self):
        self.good(1, 8, 9, 0, 0, "s5", "s6")
        self.good(1, 8, 9, 0, 0, "s5", "s30")
        self.good(1, 8, 9, 0, 0, "s30", "s7")
        self.good(1, 8, 9, 0, 0, "s28", "s29")
        self.good(1, 8, 9, 0, 0, "s26", "s28")
        self.good(1, 8, 0, 0, 0, "s22", "s23")
        self.wrong(1, 8, 9, 0, 0, "s5", "s4")
        self.wrong(1, 8, 9, 0, 0, "s5", "s24")
        self.wrong(1, 8, 9, 0, 0, "s24", "s5")
        self.wrong(1, 8, 1, 0, 0, "s5", "s6")
        self.wrong(1, 8, 9, 0, 0, "s5", "n0")
        self.wrong(1, 8, 9, 0, 0, "n0", "s5")
        self.wrong(1, 8, 9, 0, 0, "", "s5")
        self.wrong(1, 8, 9, 0, 0, "s5 s5", "s6")
        self.wrong(1, 8, 9, 1, 0, "s5", "s6")
        self.wrong(1, 8, 9, 0, 1, "s5", "s6")

    def test_as_needs_lengths(self):
        slots = [shape(9), shape(9, 1), shape(9, 1, 1), shape(9)]
        for operand, result, answer in ((0, 1, [-2, 3, 0]), (1, 0, [-2, 3, 0]), (1, 2, [0]), (0, 3, [-2, 3, 0])):
            told = code(slots=slots, calls=[call(1, 8, 9, 0, 0, f"s{operand}", f"s{result}")])
            self.assertEqual(judged(told), answer)

    def test_fill(self):
        self.good(1, 9, 9, 0, 0, "n0", "s0")
        self.good(1, 9, 9, 0, 0, "n0", "s17")
        self.good(1, 9, 0, 0, 0, "n0", "s21")
        self.wrong(1, 9, 9, 0, 0, "s12", "s0")
        self.wrong(1, 9, 9, 0, 0, "s1", "s0")
        self.wrong(1, 9, 9, 0, 0, "n0", "s12")
        self.wrong(1, 9, 9, 0, 0, "n0", "s3")
        self.wrong(1, 9, 9, 0, 0, "n0", "n1")
        self.wrong(1, 9, 9, 0, 0, "n0", "n0")
        self.wrong(1, 9, 9, 0, 0, "", "s0")
        self.wrong(1, 9, 9, 0, 0, "n0 n1", "s0")
        self.wrong(1, 9, 9, 1, 0, "n0", "s0")
        self.wrong(1, 9, 9, 0, 1, "n0", "s0")

    def test_places(self):
        self.good(1, 10, 3, 0, 0, "", "s11")
        self.wrong(1, 10, 3, 0, 0, "", "s0")
        self.wrong(1, 10, 9, 0, 0, "", "s0")
        self.wrong(1, 10, 9, 0, 0, "", "s10")
        self.wrong(1, 10, 3, 0, 0, "", "s13")
        self.wrong(1, 10, 3, 0, 0, "", "s27")
        self.wrong(1, 10, 3, 0, 0, "", "n0")
        self.wrong(1, 10, 3, 0, 0, "s11", "s10")
        self.wrong(1, 10, 3, 0, 0, "n0", "s10")
        self.wrong(1, 10, 3, 1, 0, "", "s10")
        self.wrong(1, 10, 3, 0, 1, "", "s10")

    def test_the_first_wrong_call_is_told(self):
        wrong = call(1, 11, 3, results="s10")
        self.assertEqual(judged(code(slots=SLOTS, calls=[GOOD_CALL] * 5 + [wrong, GOOD_CALL, wrong])), [-2, 3, 5])


if __name__ == "__main__":
    unittest.main()
