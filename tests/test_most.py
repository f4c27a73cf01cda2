"""The call most: the sum over a body's instructions of how often each is done at most."""

import unittest

from by_the_words import times_of_each
from helper import END, EXAMPLE, ask, code, ins, load, piece, read, same, to_bytes, to_text

LARGEST = 4294967295
MOST = 1048576
FAIL = ins("fail")
MOVE = ins("move")
LOOP = ins("loop")
LIMIT = 2 ** 62


def most(told, body):
    by_bytes = ask(load(to_bytes(told)), [9, body])
    by_text = ask(read(to_text(told)), [9, body])
    if by_bytes != by_text or by_bytes[0] != [0]:
        raise ValueError(f"loaded answers {by_bytes}, read {by_text}")
    return by_bytes[1]


def of_main(*main):
    # Pieces whose bodies are done often: they don't count here.
    other = piece(body=[LOOP, turn(9, 3), ins("back", to=1), END])
    return most(code(main=main, pieces=[other, other]), 0)


def of_body(*body):
    """Of piece 1's body, in a code whose main and piece 0 have other loops."""
    main = [ins("loop", dst=5, imm=7, to=2), ins("back", dst=5, imm=7, to=1), END]
    return most(code(main=main, pieces=[piece(), piece(body=body)]), 2)


def turn(imm, to, **fields):
    return ins("round", imm=imm, to=to, **fields)


def main_nest(*levels):
    """Loops in one another. Of each level: its imm, None for main itself, and how many fails stand in it."""
    body = [FAIL] * levels[0][1]
    for depth, (imm, fails) in enumerate(levels[1:]):
        body += [ins("loop", dst=depth, imm=imm)] + [FAIL] * fails
    begun = [place for place, one in enumerate(body) if one["op"] == 19]
    for depth in reversed(range(len(begun))):
        begin = begun[depth]
        body.append(ins("back", dst=depth, imm=body[begin]["imm"], to=begin + 1))
        body[begin] = dict(body[begin], to=len(body))
    return body + [END]


def body_nest(*levels):
    """The same for a body; each round stands right behind its loop."""
    body = [FAIL] * levels[0][1]
    for imm, fails in levels[1:]:
        body += [LOOP, turn(imm, 0)] + [FAIL] * fails
    begun = [place for place, one in enumerate(body) if one["op"] == 19]
    for begin in reversed(begun):
        body.append(ins("back", to=begin + 1))
        body[begin + 1] = dict(body[begin + 1], to=len(body))
    return body + [END]


class Main(unittest.TestCase):
    def test_without_loops(self):
        self.assertEqual(of_main(END), [1])
        self.assertEqual(of_main(FAIL, ins("fail", imm=99), ins("skip", to=3), END), [4])

    def test_loop(self):
        # The loop is done once, what it holds and its back imm times.
        self.assertEqual(of_main(*main_nest((None, 0), (3, 0))), [1 + 3 + 1])
        self.assertEqual(of_main(*main_nest((None, 2), (3, 4))), [2 + 1 + 4 * 3 + 3 + 1])
        self.assertEqual(of_main(*main_nest((None, 0), (1, 1))), [4])
        self.assertEqual(of_main(*main_nest((None, 0), (MOST, 1))), [2 * MOST + 2])

    def test_imm_0(self):
        self.assertEqual(of_main(*main_nest((None, 1), (0, 5))), [3])

    def test_loops_in_one_another(self):
        # 1; 3 3 3; 12 12; 3; 1
        self.assertEqual(of_main(*main_nest((None, 0), (3, 1), (4, 1))), [1 + 3 + 3 + 12 + 12 + 3 + 1])
        self.assertEqual(of_main(*main_nest((None, 0), (0, 1), (4, 1))), [2])
        self.assertEqual(of_main(*main_nest((None, 0), (3, 1), (0, 1))), [1 + 3 + 3 + 3 + 1])

    def test_loops_one_behind_another(self):
        first = main_nest((None, 0), (3, 1))[:-1]
        second = [ins("loop", dst=9, imm=5, to=6), FAIL, ins("back", dst=9, imm=5, to=4)]
        self.assertEqual(of_main(*first, *second, FAIL, END), [1 + 3 + 3 + 1 + 5 + 5 + 1 + 1])

    def test_behind_an_inner_loop(self):
        main = [ins("loop", dst=1, imm=3, to=6), ins("loop", dst=2, imm=4, to=4), FAIL,
                ins("back", dst=2, imm=4, to=2), FAIL, ins("back", dst=1, imm=3, to=1), END]
        self.assertEqual(of_main(*main), [1 + 3 + 12 + 12 + 3 + 3 + 1])

    def test_skips_and_calls_do_not_matter(self):
        main = [ins("loop", dst=1, imm=3, to=5), ins("skip", aux=1, to=4), FAIL, FAIL, ins("back", dst=1, imm=3, to=1), END]
        self.assertEqual(of_main(*main), [1 + 12 + 1])

    def test_sixteen_loops(self):
        self.assertEqual(of_main(*main_nest((None, 0), *[(1, 0)] * 16)), [33])
        self.assertEqual(of_main(*main_nest((None, 0), *[(MOST, 0)] * 16)), [-6])


class Bodies(unittest.TestCase):
    def test_the_documents_body(self):
        body = [LOOP, turn(3, 8), LOOP, MOVE, turn(5, 7), MOVE, ins("back", to=3), ins("back", to=1), END]
        self.assertEqual(of_body(*body), [78])
        self.assertEqual(times_of_each(body, False), [1, 4, 3, 18, 18, 15, 15, 3, 1])

    def test_without_loops(self):
        self.assertEqual(of_body(END), [1])
        self.assertEqual(of_body(FAIL, MOVE, END), [3])

    def test_before_at_and_behind_the_round(self):
        # 1; 4 before, 4 at it; 3 3 behind it; the back 3; 1
        body = [LOOP, FAIL, turn(3, 6), FAIL, FAIL, ins("back", to=1), END]
        self.assertEqual(of_body(*body), [1 + 4 + 4 + 3 + 3 + 3 + 1])

    def test_the_round_at_the_loops_beginning_and_end(self):
        self.assertEqual(of_body(LOOP, turn(3, 4), FAIL, ins("back", to=1), END), [1 + 4 + 3 + 3 + 1])
        self.assertEqual(of_body(LOOP, FAIL, turn(3, 4), ins("back", to=1), END), [1 + 4 + 4 + 3 + 1])

    def test_imm_0(self):
        self.assertEqual(of_body(LOOP, FAIL, turn(0, 5), FAIL, ins("back", to=1), END), [1 + 1 + 1 + 0 + 0 + 1])

    def test_largest_imm(self):
        self.assertEqual(of_body(LOOP, turn(MOST, 3), ins("back", to=1), END), [1 + MOST + 1 + MOST + 1])

    def test_an_inner_loop_before_the_round(self):
        # Each of the inner loop's is done 4 times as often: 4; 4 * 6; 4 * 5; the round 4, behind it 3.
        body = [LOOP, LOOP, turn(5, 4), ins("back", to=2), turn(3, 6), ins("back", to=1), END]
        self.assertEqual(of_body(*body), [1 + 4 + 24 + 20 + 4 + 3 + 1])

    def test_an_inner_loop_behind_the_round(self):
        body = [LOOP, turn(3, 6), LOOP, turn(5, 5), ins("back", to=3), ins("back", to=1), END]
        self.assertEqual(of_body(*body), [1 + 4 + 3 + 18 + 15 + 3 + 1])

    def test_inner_imm_0(self):
        body = [LOOP, turn(0, 6), LOOP, turn(5, 5), ins("back", to=3), ins("back", to=1), END]
        self.assertEqual(of_body(*body), [1 + 1 + 0 + 0 + 0 + 0 + 1])
        body = [LOOP, LOOP, turn(0, 4), ins("back", to=2), turn(0, 6), ins("back", to=1), END]
        self.assertEqual(of_body(*body), [1 + 1 + 1 + 0 + 1 + 0 + 1])

    def test_masks_do_not_matter(self):
        self.assertEqual(of_body(LOOP, turn(3, 3, mask=63), ins("back", to=1), END), [1 + 4 + 3 + 1])

    def test_loops_one_behind_another(self):
        body = [LOOP, turn(3, 3), ins("back", to=1), LOOP, FAIL, turn(5, 7), ins("back", to=4), END]
        self.assertEqual(of_body(*body), [1 + 4 + 3 + 1 + 6 + 6 + 5 + 1])

    def test_sixteen_loops(self):
        self.assertEqual(of_body(*body_nest((None, 0), *[(MOST, 0)] * 16)), [-6])

    def test_each_body_has_its_own(self):
        bodies = [[END], [LOOP, turn(3, 3), ins("back", to=1), END], [FAIL, END]]
        told = code(pieces=[piece(body=body) for body in bodies], main=[FAIL, FAIL, FAIL, END])
        self.assertEqual([most(told, number) for number in range(5)], [[4], [1], [9], [2], [-4]])


class Large(unittest.TestCase):
    """Sums that lie just below 2^62, on it, and above it."""

    def check(self, answer_of, nest, in_main, levels):
        for more, answer in ((-1, [LIMIT - 1]), (0, [-6]), (1, [-6])):
            body = nest((None, levels[0][1] + more), *levels[1:])
            self.assertEqual(sum(times_of_each(body, in_main)), LIMIT + more)
            self.assertEqual(answer_of(*body), answer)

    def test_main(self):
        # 4 are done once and 15 in each loop 16 times as often as in the one around: 4 + 4 * (15 + 16 * (15 + ..)).
        # A loop and a back or the end stand in each level too, in the last one the back alone.
        self.check(of_main, main_nest, True, [(None, 2), (4, 13)] + [(16, 13)] * 13 + [(16, 14)])

    def test_bodies(self):
        # The round is done once more than what stands behind it: as if one more stood in the level around.
        self.check(of_body, body_nest, False, [(None, 1), (4, 11)] + [(16, 11)] * 13 + [(16, 13)])

    def test_well_below_and_well_above(self):
        self.assertEqual(of_main(*main_nest((None, 0), (MOST, 0), (MOST, 0), (MOST, 2))),
                         [2 + 2 * 2 ** 20 + 2 * 2 ** 40 + 3 * 2 ** 60])
        self.assertEqual(of_main(*main_nest((None, 0), (MOST, 0), (MOST, 0), (MOST, 3))), [-6])
        self.assertEqual(of_main(*main_nest((None, 0), (MOST, 0), (MOST, 0), (MOST, 100))), [-6])

    def test_a_loop_of_0_around_large_ones(self):
        self.assertEqual(of_main(*main_nest((None, 0), *[(MOST, 0)] * 3, (0, 0), *[(MOST, 0)] * 9)),
                         [2 + 2 * 2 ** 20 + 2 * 2 ** 40 + 2 * 2 ** 60])


class Refused(unittest.TestCase):
    def test_the_documents_example(self):
        self.assertEqual([most(EXAMPLE, body) for body in (0, 1)], [[3], [8]])

    def test_a_body_that_there_is_not(self):
        for body in (2, 3, 256, LARGEST):
            self.assertEqual(most(EXAMPLE, body), [-4])
        self.assertEqual([most(code(), body) for body in (0, 1)], [[1], [-4]])

    def test_no_code_is_held(self):
        found = ask([9, 0], load([]), [9, 9], read("code"), [9, 0])
        self.assertEqual(found, [[-8], [-2, 1, 0], [-8], [-5], [-8]])

    def test_a_refused_call_changes_nothing(self):
        told = code(main=main_nest((None, 0), *[(MOST, 0)] * 16), pieces=[piece()])
        found = ask(load(to_bytes(told)), [9, 9], [9, 0], same([]), load([]), read(""), [9, 1])
        self.assertEqual(found, [[0], [-4], [-6], [-2, 1, 0], [-2, 1, 0], [-5], [1]])


if __name__ == "__main__":
    unittest.main()
