"""The call uses: how many calls and how many of main's instructions have a slot."""

import unittest

from helper import END, EXAMPLE, ask, call, code, ins, load, piece, read, same, shape, to_bytes, to_text

LARGEST = 4294967295
SLOTS = [shape(9, 4), shape(9, 4), shape(9, 4), shape(3, 4)]


def uses(told):
    """The answers for each slot, and for the first that there isn't."""
    asked = [[8, slot] for slot in range(len(told["slots"]) + 1)]
    by_bytes = ask(load(to_bytes(told)), *asked)
    by_text = ask(read(to_text(told)), *asked)
    if by_bytes != by_text or by_bytes[0] != [0]:
        raise ValueError(f"loaded answers {by_bytes}, read {by_text}")
    return [one[0] for one in by_bytes[1:]]


def of_main(*main, **parts):
    return uses(code(slots=SLOTS, names=[b"a", b"b"], main=list(main) + [END], **parts))


def of_calls(*calls, **parts):
    return uses(code(slots=SLOTS, calls=calls, **parts))


class Calls(unittest.TestCase):
    PIECES = [
        piece(inputs=[shape(9, 4), shape(9, 4)]), piece(inputs=[shape(9)], results=[(9, [], 0)]),
        piece(results=[(9, [4], 0), (9, [4], 0)]),
    ]

    def test_none(self):
        self.assertEqual(of_calls(), [0, 0, 0, 0, -4])

    def test_operands_and_results(self):
        self.assertEqual(of_calls(call(0, 0, operands="s0 s1", results="s2"), pieces=self.PIECES), [1, 1, 1, 0, -4])
        self.assertEqual(of_calls(call(0, 2, results="s2 s0"), pieces=self.PIECES), [1, 0, 1, 0, -4])
        self.assertEqual(of_calls(call(1, 3, 9, 0, 0, "s2", "s1")), [0, 1, 1, 0, -4])
        self.assertEqual(of_calls(call(1, 5, 9, 0, 0, "s2 s3", "s0")), [1, 0, 1, 1, -4])

    def test_a_call_that_has_it_several_times_counts_once(self):
        self.assertEqual(of_calls(call(0, 0, operands="s1 s1", results="s2"), pieces=self.PIECES), [0, 1, 1, 0, -4])

    def test_operand_and_result_of_different_calls(self):
        calls = [call(1, 3, 9, 0, 0, "s0", "s1"), call(1, 3, 9, 0, 0, "s1", "s2"), call(1, 4, 9, 0, 0, "s1", "s3")]
        self.assertEqual(of_calls(*calls), [1, 3, 1, 1, -4])

    def test_calls_alike_count_each(self):
        self.assertEqual(of_calls(*[call(1, 3, 9, 0, 0, "s0", "s1")] * 3), [3, 3, 0, 0, -4])

    def test_numbers_places_are_no_slots(self):
        self.assertEqual(of_calls(call(0, 1, operands="n0", results="n1"), pieces=self.PIECES), [0, 0, 0, 0, -4])
        self.assertEqual(of_calls(call(1, 9, 9, 0, 0, "n2", "s0")), [1, 0, 0, 0, -4])
        self.assertEqual(of_calls(call(1, 0, 9, 0, 255, "s0", "n1")), [1, 0, 0, 0, -4])

    def test_which_kind_u_v_are_no_slots(self):
        self.assertEqual(of_calls(call(1, 6, 9, 0, 3, "s0", "s1")), [1, 1, 0, 0, -4])

    def test_a_call_counts_whether_or_not_main_makes_it(self):
        one = call(1, 3, 9, 0, 0, "s1", "s2")
        self.assertEqual(of_main(calls=[one]), [0, 1, 1, 0, -4])
        self.assertEqual(of_main(ins("call"), ins("call"), calls=[one]), [0, 1, 1, 0, -4])


class Instructions(unittest.TestCase):
    def test_cell(self):
        self.assertEqual(of_main(ins("cell", aux=1, dst=2, a=3)), [0, 1, 0, 0, -4])
        self.assertEqual(of_main(ins("cell", aux=0, dst=2, a=3), ins("cell", aux=3)), [1, 0, 0, 1, -4])

    def test_tell(self):
        self.assertEqual(of_main(ins("tell", aux=1, a=2)), [0, 0, 1, 0, -4])
        self.assertEqual(of_main(ins("tell", aux=0, a=2)), [0, 0, 0, 0, -4])
        self.assertEqual(of_main(ins("tell", aux=0, kind=1)), [0, 0, 0, 0, -4])

    def test_ask(self):
        self.assertEqual(of_main(ins("ask", aux=1, dst=2, imm=1)), [0, 0, 1, 0, -4])
        self.assertEqual(of_main(ins("ask", aux=0, dst=2, imm=1)), [0, 0, 0, 0, -4])
        self.assertEqual(of_main(ins("ask", aux=0, kind=1)), [0, 0, 0, 0, -4])

    def test_copy(self):
        self.assertEqual(of_main(ins("copy", dst=2, a=1)), [0, 1, 1, 0, -4])
        self.assertEqual(of_main(ins("copy", dst=3, a=3)), [0, 0, 0, 1, -4])
        self.assertEqual(of_main(ins("copy", dst=0, a=0)), [1, 0, 0, 0, -4])

    def test_each_counts_once(self):
        main = [ins("copy", dst=1, a=1), ins("copy", dst=1, a=2), ins("cell", aux=1), ins("tell", aux=1, a=1),
                ins("ask", aux=1, dst=1), ins("cell", aux=1)]
        self.assertEqual(of_main(*main), [0, 6, 1, 0, -4])

    def test_other_ops_name_no_slot(self):
        main = [
            ins("const", dst=1), ins("move", dst=1, a=1), ins("two", kind=1, aux=1, dst=1, a=1, b=1),
            ins("choose", dst=1, a=1, b=1, c=1), ins("convert", aux=1, dst=1, a=1), ins("compare", aux=1, dst=1, a=1, b=1),
            ins("draw", kind=8, aux=1, dst=1, a=1, b=1), ins("skip", a=1, to=8), ins("skip", aux=1, to=9),
            ins("fail", imm=1), ins("loop", dst=9, imm=1, to=12), ins("back", dst=9, imm=1, to=11),
        ]
        self.assertEqual(of_main(*main), [0, 0, 0, 0, -4])

    def test_loops_do_not_matter(self):
        self.assertEqual(of_main(ins("loop", dst=9, imm=5, to=3), ins("cell", aux=1), ins("back", dst=9, imm=5, to=1)),
                         [0, 1, 0, 0, -4])

    def test_instructions_of_bodies_are_not_counted(self):
        body = [ins("cell", aux=0, dst=1, a=1), ins("cell", aux=1, dst=1, a=1), ins("store", aux=0, a=1, b=1), END]
        told = piece(inputs=[shape(9, 4), shape(9, 4)], body=body)
        self.assertEqual(of_main(pieces=[told]), [0, 0, 0, 0, -4])

    def test_calls_and_instructions_together(self):
        main = [ins("call"), ins("cell", aux=1), ins("copy", dst=1, a=0)]
        calls = [call(1, 3, 9, 0, 0, "s1", "s2"), call(1, 3, 9, 0, 0, "s0", "s1")]
        self.assertEqual(of_main(*main, calls=calls), [2, 4, 1, 0, -4])


class Refused(unittest.TestCase):
    def test_the_documents_example(self):
        self.assertEqual(uses(EXAMPLE), [1, 2, -4])

    def test_a_slot_that_there_is_not(self):
        self.assertEqual(ask(load(to_bytes(EXAMPLE)), [8, 2], [8, 256], [8, LARGEST])[1:], [[-4]] * 3)
        self.assertEqual(uses(code()), [-4])

    def test_no_code_is_held(self):
        found = ask([8, 0], load([]), [8, 9], read("code"), [8, 0])
        self.assertEqual(found, [[-8], [-2, 1, 0], [-8], [-5], [-8]])

    def test_a_refused_call_changes_nothing(self):
        found = ask(load(to_bytes(EXAMPLE)), [8, 9], same([]), load([]), read(""), [8, 1])
        self.assertEqual(found, [[0], [-4], [-2, 1, 0], [-2, 1, 0], [-5], [2]])


if __name__ == "__main__":
    unittest.main()
