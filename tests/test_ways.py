"""What 5: ends, loops, rounds, skips and what loops' numbers may be put by, as bytes and as a text."""

import random
import unittest

from helper import END, call, code, ins, judged, loops_around, piece, shape

MOST = 1048576
FAIL = ins("fail")
MAIN = [FAIL, END]
BEFORE = len(MAIN) + 1


def in_main(*main, **parts):
    return judged(code(main=main, **parts))


def in_body(*body):
    """The answer where body is piece 1's: its first instruction is numbered BEFORE."""
    return judged(code(main=MAIN, pieces=[piece(), piece(body=body)]))


def loop(dst, imm, to):
    return ins("loop", dst=dst, imm=imm, to=to)


def back(dst, imm, to):
    return ins("back", dst=dst, imm=imm, to=to)


def skip(to, **fields):
    return ins("skip", to=to, **fields)


LOOP = ins("loop")


def turn(to, imm=1):
    return ins("round", imm=imm, to=to)


def body_back(to):
    return ins("back", to=to)


class Ends(unittest.TestCase):
    def test_main(self):
        self.assertEqual(in_main(END), [0])
        self.assertEqual(in_main(FAIL, END), [0])
        self.assertEqual(in_main(FAIL), [-2, 5, 0])
        self.assertEqual(in_main(FAIL, FAIL), [-2, 5, 1])
        self.assertEqual(in_main(END, END), [-2, 5, 0])
        self.assertEqual(in_main(END, FAIL), [-2, 5, 0])
        self.assertEqual(in_main(FAIL, END, END), [-2, 5, 1])

    def test_main_without_instructions(self):
        self.assertEqual(in_main(), [-2, 5, 0])
        self.assertEqual(in_main(pieces=[piece(), piece(body=[])]), [-2, 5, 0])

    def test_bodies(self):
        self.assertEqual(in_body(END), [0])
        self.assertEqual(in_body(FAIL, END), [0])
        self.assertEqual(in_body(FAIL), [-2, 5, BEFORE])
        self.assertEqual(in_body(FAIL, FAIL, FAIL), [-2, 5, BEFORE + 2])
        self.assertEqual(in_body(END, END), [-2, 5, BEFORE])
        self.assertEqual(in_body(FAIL, END, FAIL), [-2, 5, BEFORE + 1])

    def test_bodies_without_instructions(self):
        self.assertEqual(in_body(), [-2, 5, BEFORE])
        self.assertEqual(judged(code(pieces=[piece(body=[]), piece(body=[])])), [-2, 5, 1])
        self.assertEqual(judged(code(pieces=[piece(body=[FAIL, END]), piece(body=[]), piece(body=[FAIL])])), [-2, 5, 3])

    def test_main_before_bodies(self):
        self.assertEqual(judged(code(main=[FAIL], pieces=[piece(body=[])])), [-2, 5, 0])
        self.assertEqual(judged(code(main=[END], pieces=[piece(body=[END, FAIL]), piece(body=[])])), [-2, 5, 1])


class LoopsOfMain(unittest.TestCase):
    def test_good(self):
        self.assertEqual(in_main(loop(5, 3, 2), back(5, 3, 1), END), [0])
        self.assertEqual(in_main(FAIL, loop(5, 3, 4), FAIL, back(5, 3, 2), END), [0])
        self.assertEqual(in_main(loop(5, 3, 4), loop(6, 2, 3), back(6, 2, 2), back(5, 3, 1), END), [0])
        self.assertEqual(in_main(loop(5, 3, 2), back(5, 3, 1), loop(5, 3, 4), back(5, 3, 3), END), [0])

    def test_imm(self):
        for imm, answer in ((0, [0]), (1, [0]), (MOST, [0]), (MOST + 1, [-2, 5, 0]), (18446744073709551615, [-2, 5, 0])):
            self.assertEqual(in_main(loop(5, imm, 2), back(5, imm, 1), END), answer)

    def test_to_of_the_loop(self):
        for to in (0, 1, 3, 4294967295):
            self.assertEqual(in_main(loop(5, 3, to), back(5, 3, 1), END), [-2, 5, 0])

    def test_to_of_the_back(self):
        for to in (0, 2, 3, 4294967295):
            self.assertEqual(in_main(loop(5, 3, 2), back(5, 3, to), END), [-2, 5, 1])

    def test_to_of_loops_in_one_another(self):
        self.assertEqual(in_main(loop(5, 3, 3), loop(6, 2, 4), back(6, 2, 2), back(5, 3, 1), END), [-2, 5, 0])
        self.assertEqual(in_main(loop(5, 3, 4), loop(6, 2, 4), back(6, 2, 2), back(5, 3, 1), END), [-2, 5, 1])
        self.assertEqual(in_main(loop(5, 3, 4), loop(6, 2, 3), back(6, 2, 1), back(5, 3, 2), END), [-2, 5, 2])
        self.assertEqual(in_main(loop(5, 3, 4), loop(6, 2, 3), back(6, 2, 2), back(5, 3, 2), END), [-2, 5, 3])

    def test_dst_and_imm_of_the_back(self):
        self.assertEqual(in_main(loop(5, 3, 2), back(6, 3, 1), END), [-2, 5, 1])
        self.assertEqual(in_main(loop(5, 3, 2), back(5, 4, 1), END), [-2, 5, 1])
        self.assertEqual(in_main(loop(5, 3, 2), back(5, 2, 1), END), [-2, 5, 1])

    def test_a_loop_without_a_back(self):
        self.assertEqual(in_main(FAIL, loop(5, 3, 2), END), [-2, 5, 1])
        self.assertEqual(in_main(FAIL, loop(5, 3, 3), END, END), [-2, 5, 1])
        self.assertEqual(in_main(loop(5, 3, 3), loop(6, 2, 3), back(6, 2, 2), END), [-2, 5, 0])

    def test_a_back_without_a_loop(self):
        self.assertEqual(in_main(back(0, 0, 1), END), [-2, 5, 0])
        self.assertEqual(in_main(loop(5, 3, 2), back(5, 3, 1), back(5, 3, 1), END), [-2, 5, 2])
        self.assertEqual(in_main(back(5, 3, 2), loop(5, 3, 3), END), [-2, 5, 0])

    def nest(self, depth):
        main = [loop(number, 2, 2 * depth - number) for number in range(depth)]
        main += [back(number, 2, number + 1) for number in reversed(range(depth))]
        return main + [END]

    def test_sixteen_loops_in_one_another(self):
        self.assertEqual(in_main(*self.nest(16)), [0])
        self.assertEqual(in_main(*self.nest(17)), [-2, 5, 16])
        self.assertEqual(in_main(*self.nest(150)), [-2, 5, 16])

    def test_the_back_is_held_and_the_loop_is_not(self):
        """A skip tells: it may go only where just the same loops hold."""
        self.assertEqual(in_main(loop(5, 3, 3), skip(2), back(5, 3, 1), END), [0])
        self.assertEqual(in_main(loop(5, 3, 3), skip(3), back(5, 3, 1), END), [-2, 5, 1])
        self.assertEqual(in_main(skip(1), loop(5, 3, 3), back(5, 3, 2), END), [0])
        self.assertEqual(in_main(skip(2), loop(5, 3, 3), back(5, 3, 2), END), [-2, 5, 0])
        self.assertEqual(in_main(skip(3), loop(5, 3, 3), back(5, 3, 2), END), [0])


class LoopsOfBodies(unittest.TestCase):
    def test_the_documents_body(self):
        body = [LOOP, turn(8, 3), LOOP, ins("move"), turn(7, 5), ins("move"), body_back(3), body_back(1), END]
        self.assertEqual(in_body(*body), [0])

    def test_good(self):
        self.assertEqual(in_body(LOOP, turn(3), body_back(1), END), [0])
        self.assertEqual(in_body(FAIL, LOOP, FAIL, turn(6), FAIL, body_back(2), END), [0])

    def test_just_one_round(self):
        self.assertEqual(in_body(LOOP, body_back(1), END), [-2, 5, BEFORE])
        self.assertEqual(in_body(LOOP, turn(4), turn(4), body_back(1), END), [-2, 5, BEFORE])

    def test_the_round_of_an_inner_loop_is_not_the_outer_ones(self):
        self.assertEqual(in_body(LOOP, LOOP, turn(4), body_back(2), body_back(1), END), [-2, 5, BEFORE])
        self.assertEqual(in_body(LOOP, LOOP, body_back(2), turn(5), body_back(1), END), [-2, 5, BEFORE + 1])
        self.assertEqual(in_body(LOOP, LOOP, turn(4), body_back(2), turn(6), body_back(1), END), [0])
        self.assertEqual(in_body(LOOP, turn(6), LOOP, turn(5), body_back(3), body_back(1), END), [0])

    def test_imm_of_the_round(self):
        for imm, answer in ((0, [0]), (MOST, [0]), (MOST + 1, [-2, 5, BEFORE + 1])):
            self.assertEqual(in_body(LOOP, turn(3, imm), body_back(1), END), answer)

    def test_to_of_the_round(self):
        for to in (0, 1, 2, 4, 4294967295):
            self.assertEqual(in_body(LOOP, turn(to), body_back(1), END), [-2, 5, BEFORE + 1])
        self.assertEqual(in_body(LOOP, LOOP, turn(6), body_back(2), turn(6), body_back(1), END), [-2, 5, BEFORE + 2])
        self.assertEqual(in_body(LOOP, LOOP, turn(4), body_back(2), turn(4), body_back(1), END), [-2, 5, BEFORE + 4])

    def test_a_round_without_a_loop(self):
        self.assertEqual(in_body(turn(1), END), [-2, 5, BEFORE])
        self.assertEqual(in_body(LOOP, turn(3), body_back(1), turn(3), END), [-2, 5, BEFORE + 3])

    def test_to_of_the_back(self):
        for to in (0, 2, 3, 4294967295):
            self.assertEqual(in_body(LOOP, turn(3), body_back(to), END), [-2, 5, BEFORE + 2])

    def test_a_loop_without_a_back(self):
        self.assertEqual(in_body(FAIL, LOOP, turn(3), END), [-2, 5, BEFORE + 1])

    def test_a_back_without_a_loop(self):
        self.assertEqual(in_body(body_back(0), END), [-2, 5, BEFORE])
        self.assertEqual(in_body(LOOP, turn(3), body_back(1), body_back(1), END), [-2, 5, BEFORE + 3])

    def nest(self, depth):
        body = []
        for number in range(depth):
            body += [LOOP, turn(3 * depth - number)]
        return body + [body_back(2 * number + 1) for number in reversed(range(depth))] + [END]

    def test_sixteen_loops_in_one_another(self):
        self.assertEqual(in_body(*self.nest(16)), [0])
        self.assertEqual(in_body(*self.nest(17)), [-2, 5, BEFORE + 32])

    def test_sixteen_loops_one_behind_another(self):
        body = []
        for number in range(40):
            body += [LOOP, turn(3 * number + 3), body_back(3 * number + 1)]
        self.assertEqual(in_body(*body, END), [0])


class Skips(unittest.TestCase):
    def test_main(self):
        for to, answer in ((0, [-2, 5, 1]), (1, [-2, 5, 1]), (2, [0]), (3, [0]), (4, [-2, 5, 1])):
            self.assertEqual(in_main(FAIL, skip(to), FAIL, END), answer)
            self.assertEqual(in_main(FAIL, skip(to, aux=1), FAIL, END), answer)
        self.assertEqual(in_main(skip(4294967295), END), [-2, 5, 0])

    def test_bodies(self):
        for to, answer in ((0, 1), (1, 1), (2, None), (3, None), (4, 1)):
            expected = [0] if answer is None else [-2, 5, BEFORE + answer]
            self.assertEqual(in_body(FAIL, skip(to), FAIL, END), expected)

    def test_over_a_loop(self):
        self.assertEqual(in_main(skip(3), loop(5, 3, 3), back(5, 3, 2), END), [0])
        self.assertEqual(in_body(skip(4), LOOP, turn(4), body_back(2), END), [0])

    def test_into_a_loop(self):
        self.assertEqual(in_main(skip(2), loop(5, 3, 4), FAIL, back(5, 3, 2), END), [-2, 5, 0])
        self.assertEqual(in_body(skip(2), LOOP, turn(4), body_back(2), END), [-2, 5, BEFORE])

    def test_out_of_a_loop(self):
        self.assertEqual(in_main(loop(5, 3, 3), skip(4), back(5, 3, 1), FAIL, END), [-2, 5, 1])
        self.assertEqual(in_body(LOOP, turn(4), skip(5), body_back(1), FAIL, END), [-2, 5, BEFORE + 2])

    def test_from_one_loop_into_another(self):
        self.assertEqual(in_main(loop(5, 3, 3), skip(4), back(5, 3, 1), loop(5, 3, 6), FAIL, back(5, 3, 4), END),
                         [-2, 5, 1])

    def test_into_a_loop_that_has_no_back(self):
        self.assertEqual(in_main(skip(2), loop(5, 3, 3), END), [-2, 5, 0])
        self.assertEqual(in_main(skip(1), loop(5, 3, 3), END), [-2, 5, 1])

    def test_rounds_between(self):
        self.assertEqual(in_body(LOOP, skip(3), turn(5), FAIL, body_back(1), END), [-2, 5, BEFORE + 1])
        self.assertEqual(in_body(LOOP, skip(4), turn(5), FAIL, body_back(1), END), [-2, 5, BEFORE + 1])
        self.assertEqual(in_body(LOOP, turn(5), skip(4), FAIL, body_back(1), END), [0])

    def test_a_round_at_the_skips_end_is_not_between(self):
        self.assertEqual(in_body(LOOP, skip(2), turn(5), FAIL, body_back(1), END), [0])
        self.assertEqual(in_body(LOOP, skip(3), FAIL, turn(5), body_back(1), END), [0])

    def test_a_round_of_an_inner_loop_may_be_between(self):
        self.assertEqual(in_body(LOOP, turn(7), skip(6), LOOP, turn(6), body_back(4), body_back(1), END), [0])

    def test_rounds_between_where_no_loop_holds_the_skip(self):
        self.assertEqual(in_body(skip(4), LOOP, turn(4), body_back(2), FAIL, END), [0])


class Puts(unittest.TestCase):
    """In main a loop's number is put by nothing that the loop holds."""

    SLOTS = [shape(9, 4), shape(9, 4), shape(9, 4), shape(9, 4), shape(9, 4), shape(9, 4), shape(3, 4)]
    PIECE = piece(results=[(9, [4], 0), (9, [], 0)])

    def answer(self, told, dst=5):
        calls = [call(0, 0, results=f"s5 n{number}") for number in (5, 6)] + [call(1, 0, 9, 0, 255, "s0", "n5")]
        calls += [call(1, 9, 9, 0, 0, "n5", "s5")]
        main = [loop(dst, 3, 3), told, back(dst, 3, 1), END]
        return judged(code(slots=self.SLOTS, names=[b"a"], calls=calls, pieces=[self.PIECE], main=main))

    def test_every_op_with_dst(self):
        for word, fields in (
            ("const", dict()), ("move", dict()), ("two", dict(kind=1)), ("one", dict(kind=1)), ("fused", dict(kind=9)),
            ("mantissa", dict(kind=9)), ("convert", dict()), ("compare", dict()), ("isnan", dict(kind=9)),
            ("choose", dict()), ("function", dict(kind=9)), ("power", dict(kind=9)), ("draw", dict(kind=8)),
            ("cell", dict()), ("ask", dict()), ("two", dict(kind=1, aux=1)), ("one", dict(kind=1, aux=1)),
            ("convert", dict(aux=1)), ("compare", dict(aux=1)), ("function", dict(kind=9, aux=1)),
            ("draw", dict(kind=8, aux=1)), ("cell", dict(aux=1)),
        ):
            self.assertEqual(self.answer(ins(word, dst=5, **fields)), [-2, 5, 1], word)
            self.assertEqual(self.answer(ins(word, dst=4, **fields)), [0], word)
            self.assertEqual(self.answer(ins(word, dst=6, **fields)), [0], word)

    def test_what_is_named_otherwise_is_not_put(self):
        for told in (ins("move", dst=1, a=5), ins("draw", kind=8, dst=1, a=5), ins("draw", kind=8, dst=1, a=2),
                     ins("draw", kind=8, aux=1, dst=1, a=6, b=5), ins("tell", a=5), ins("skip", a=5, to=2)):
            self.assertEqual(self.answer(told), [0])

    def test_slots_are_not_numbers(self):
        self.assertEqual(self.answer(ins("copy", dst=5, a=5)), [0])
        self.assertEqual(self.answer(ins("ask", aux=1, dst=5)), [0])
        self.assertEqual(self.answer(ins("tell", aux=1, a=5)), [0])

    def test_ops_without_dst_do_not_put_place_0(self):
        for told in (ins("tell"), ins("tell", aux=1), ins("fail"), ins("skip", to=2), ins("call", imm=0),
                     ins("copy", dst=0, a=0), ins("ask", aux=1, dst=0)):
            self.assertEqual(self.answer(told, dst=0), [0])
        self.assertEqual(self.answer(ins("const"), dst=0), [-2, 5, 1])

    def test_calls(self):
        self.assertEqual(self.answer(ins("call", imm=0)), [-2, 5, 1])
        self.assertEqual(self.answer(ins("call", imm=1)), [0])
        self.assertEqual(self.answer(ins("call", imm=2)), [-2, 5, 1])
        self.assertEqual(self.answer(ins("call", imm=3)), [0])

    def test_outside_the_loop(self):
        put = ins("const", dst=5)
        self.assertEqual(in_main(put, loop(5, 3, 3), back(5, 3, 2), put, END), [0])

    def test_a_loop_within_puts_its_own(self):
        for dst, answer in ((6, [0]), (5, [-2, 5, 1])):
            self.assertEqual(in_main(loop(5, 3, 4), loop(dst, 2, 3), back(dst, 2, 2), back(5, 3, 1), END), answer)

    def test_every_loop_around_counts(self):
        for dst, answer in ((5, [-2, 5, 2]), (6, [-2, 5, 2]), (7, [0])):
            main = [loop(5, 3, 5), loop(6, 2, 4), ins("const", dst=dst), back(6, 2, 2), back(5, 3, 1), END]
            self.assertEqual(in_main(*main), answer)

    def test_bodies_have_no_such_rule(self):
        self.assertEqual(in_body(LOOP, turn(4), ins("const"), body_back(1), END), [0])

    def test_behind_an_inner_loop_the_outer_one_still_holds(self):
        main = [loop(5, 3, 5), loop(6, 2, 3), back(6, 2, 2), ins("const", dst=6), back(5, 3, 1), END]
        self.assertEqual(in_main(*main), [0])
        main[3] = ins("const", dst=5)
        self.assertEqual(in_main(*main), [-2, 5, 3])


class FirstOfAll(unittest.TestCase):
    def test_the_first_instruction_is_told(self):
        self.assertEqual(in_main(skip(9), back(0, 0, 0), FAIL), [-2, 5, 0])
        self.assertEqual(in_main(FAIL, back(0, 0, 0), skip(0), FAIL), [-2, 5, 1])
        self.assertEqual(in_main(FAIL, END, skip(0), FAIL), [-2, 5, 1])
        self.assertEqual(in_body(LOOP, turn(9), turn(9), body_back(9)), [-2, 5, BEFORE])
        self.assertEqual(in_body(LOOP, turn(9), body_back(9)), [-2, 5, BEFORE + 1])

    def test_against_the_words_taken_one_by_one(self):
        source = random.Random(5)
        good = 0
        for step in range(6000):
            body, in_main_too = random_instructions(source)
            place = first_wrong(body, in_main_too)
            answer = in_main(*body) if in_main_too else in_body(*body)
            first = 0 if in_main_too else BEFORE
            self.assertEqual(answer, [0] if place is None else [-2, 5, first + place], body)
            good += place is None
        # Enough of both sorts for the comparison to tell something.
        self.assertGreater(good, 600)
        self.assertLess(good, 5400)


def random_instructions(source):
    """Nested loops with ways that are right, of which some are then changed a little."""
    main = source.random() < 0.5
    body = []
    nest = []
    for step in range(source.randrange(14)):
        word = source.choice(("fail", "fail", "const", "skip", "loop", "loop", "back", "back", "round"))
        if word == "loop":
            nest.append(len(body))
            body.append(ins("loop", dst=source.randrange(9), imm=2) if main else ins("loop"))
            if not main and source.random() < 0.5:
                body.append(ins("round", imm=2))
        elif word == "back" and nest:
            begin = nest.pop()
            close(body, begin, main)
        elif word == "skip":
            body.append(ins("skip", to=len(body) + source.choice((1, 1, 1, 2, 3, 5))))
        elif word == "round" and not main and nest:
            body.append(ins("round", imm=2))
        elif word == "const":
            body.append(ins("const", dst=source.randrange(9)))
        else:
            body.append(ins("fail"))
    while nest:
        close(body, nest.pop(), main)
    body.append(ins("end"))
    for step in range(source.choice((0, 0, 0, 1, 2))):
        spot = source.randrange(len(body))
        change = source.choice(("to", "leave out", "twice"))
        if change == "leave out":
            body = body[:spot] + body[spot + 1:]
        elif change == "twice":
            body = body[:spot] + [body[spot]] + body[spot:]
        elif body[spot]["op"] in (18, 20, 21) or body[spot]["op"] == 19 and main:
            body[spot] = dict(body[spot], to=max(0, body[spot]["to"] + source.choice((-1, 1))))
        if not body:
            break
    return body, main


def close(body, begin, main):
    end = len(body)
    if main:
        body[begin] = dict(body[begin], to=end + 1)
        body.append(ins("back", dst=body[begin]["dst"], imm=2, to=begin + 1))
        return
    depth = 0
    found = False
    for spot in range(begin + 1, end):
        depth += {19: 1, 21: -1}.get(body[spot]["op"], 0)
        if body[spot]["op"] == 20 and depth == 0:
            body[spot] = dict(body[spot], to=end + 1)
            found = True
    if not found:
        body.append(ins("round", imm=2, to=end + 2))
    body.append(ins("back", to=begin + 1))


def first_wrong(body, main):
    """The document's words on ways, each instruction with the whole set of loops that hold it."""
    if not body:
        return 0
    ended_by, held_by = loops_around(body)
    for place in range(len(body)):
        if not own_rule(body, main, place, ended_by, held_by):
            return place
    return None


def own_rule(body, main, place, ended_by, held_by):
    told = body[place]
    op = told["op"]
    if (op == 0) != (place == len(body) - 1):
        return False
    if main and op in (1, 19) and any(body[spot]["dst"] == told["dst"] for spot in held_by[place]):
        return False
    if op == 19:
        if len(held_by[place]) > 15 or place not in ended_by:
            return False
        if main:
            return told["to"] == ended_by[place] + 1 and told["imm"] <= MOST
        return len([spot for spot, one in enumerate(body) if one["op"] == 20 and held_by[spot]
                    and max(held_by[spot]) == place]) == 1
    if op == 21:
        begun = [spot for spot, end in ended_by.items() if end == place]
        if not begun or told["to"] != begun[0] + 1:
            return False
        return not main or (told["dst"], told["imm"]) == (body[begun[0]]["dst"], body[begun[0]]["imm"])
    if op == 20:
        return bool(held_by[place]) and told["imm"] <= MOST and told["to"] == ended_by.get(max(held_by[place]), -9) + 1
    if op == 18:
        if not place < told["to"] < len(body) or held_by[told["to"]] != held_by[place]:
            return False
        between = range(place + 1, told["to"])
        return main or not held_by[place] or not any(
            body[spot]["op"] == 20 and held_by[spot] == held_by[place] for spot in between)
    return True


if __name__ == "__main__":
    unittest.main()
