"""Which text is some code's: -5 for all others."""

import unittest

from helper import (
    END, EXAMPLE_LINES, RICH, WORDS, ask, call, code, example_text, ins, line, piece, read, shape, to_text,
)

NO_TEXT = [-5]
END_LINE = "end 0 0 0 0 0 0 0 0 0 0\n"
LEAST = "code 0\nmain\n" + END_LINE
PIECE = "piece 0 0\naxes 4\nresult 9 0 4\n" + END_LINE


def answer(text):
    return ask(read(text))[0]


class Lines(unittest.TestCase):
    def test_least_text(self):
        self.assertEqual(answer(LEAST), [0])

    def test_cut_short_anywhere(self):
        """A cut at a line's end may leave some code's text; any other cut leaves none."""
        for text in (example_text(), to_text(RICH)):
            for length in range(len(text)):
                if length == 0 or text[length - 1] != "\n":
                    self.assertEqual(answer(text[:length]), NO_TEXT, length)

    def test_cut_at_a_lines_end(self):
        answers_of_cuts = [answer(example_text(**{f"line_{k}": None for k in range(length, 20)}))
                           for length in range(21)]
        self.assertEqual(answers_of_cuts[:5], [NO_TEXT] * 5)
        self.assertEqual(answers_of_cuts[5:9], [[-2, 3, 0]] * 4)
        # Behind `piece` the axes must stand; without results what 2 is told, without instructions what 5.
        self.assertEqual(answers_of_cuts[9:], [NO_TEXT, [-2, 2, 0], [-2, 2, 0], [-2, 5, 3], [-2, 5, 3], [-2, 5, 4],
                                               [-2, 5, 5], [-2, 5, 6], [-2, 5, 7], [-2, 5, 8], [-2, 5, 9], [0]])

    def test_one_byte_too_many(self):
        for byte in range(256):
            self.assertEqual(answer(example_text().encode() + bytes([byte])), NO_TEXT)
            self.assertEqual(answer(bytes([byte]) + example_text().encode()), NO_TEXT)

    def test_no_text(self):
        for text in ("", "\n", " ", " \n"):
            self.assertEqual(answer(text), NO_TEXT)

    def test_two_blanks(self):
        for spot, one in enumerate(EXAMPLE_LINES):
            for other in (one.replace(" ", "  "), one.replace(" ", "  ", 1), one + "  "):
                if other != one:
                    self.assertEqual(answer(example_text(**{f"line_{spot}": other})), NO_TEXT)

    def test_blank_at_a_lines_end_or_beginning(self):
        for spot, one in enumerate(EXAMPLE_LINES):
            self.assertEqual(answer(example_text(**{f"line_{spot}": one + " "})), NO_TEXT)
            self.assertEqual(answer(example_text(**{f"line_{spot}": " " + one})), NO_TEXT)

    def test_blanks_at_the_end_of_other_lines(self):
        for spot, one in enumerate(to_text(RICH).splitlines()):
            lines = to_text(RICH).splitlines()
            lines[spot] = one + " "
            self.assertEqual(answer("\n".join(lines) + "\n"), NO_TEXT)

    def test_other_white_signs(self):
        for sign in ("\t", "\r", "\x0b", "\x0c", "\x00", "\x85", "\xa0"):
            self.assertEqual(answer(example_text().replace(" ", sign, 1)), NO_TEXT)
            self.assertEqual(answer(example_text().replace("\n", sign, 1)), NO_TEXT)
            self.assertEqual(answer(example_text().replace("\n", sign + "\n", 1)), NO_TEXT)

    def test_empty_line_anywhere(self):
        lines = list(EXAMPLE_LINES)
        for spot in range(len(lines) + 1):
            self.assertEqual(answer("\n".join(lines[:spot] + [""] + lines[spot:]) + "\n"), NO_TEXT)

    def test_a_line_in_the_wrong_place(self):
        """Two neighbours swapped, wherever the document gives them an order."""
        for spot in (0, 2, 3, 4, 7, 8, 9, 10, 11):
            swapped = {f"line_{spot}": EXAMPLE_LINES[spot + 1], f"line_{spot + 1}": EXAMPLE_LINES[spot]}
            self.assertEqual(answer(example_text(**swapped)), NO_TEXT, spot)

    def test_a_line_of_the_beginning_at_the_end(self):
        for spot in (0, 1, 3, 4, 9, 10, 11):
            self.assertEqual(answer(example_text() + EXAMPLE_LINES[spot] + "\n"), NO_TEXT, spot)

    def test_a_line_told_twice(self):
        for spot in (0, 4, 9):
            self.assertEqual(answer(example_text(**{f"line_{spot}": EXAMPLE_LINES[spot] + "\n" + EXAMPLE_LINES[spot]})),
                             NO_TEXT)

    def test_a_line_left_out(self):
        for spot in (0, 4, 9):
            self.assertEqual(answer(example_text(**{f"line_{spot}": None})), NO_TEXT)

    def test_names_stand_behind_slots(self):
        self.assertEqual(answer("code 0\nslot 1\nname 61\nmain\n" + END_LINE), [0])
        self.assertEqual(answer("code 0\nname 61\nslot 1\nmain\n" + END_LINE), NO_TEXT)

    def test_inputs_stand_before_results(self):
        self.assertEqual(answer(LEAST + "piece 0 0\naxes 4\ninput 1\nresult 9 0 4\n" + END_LINE), [0])
        self.assertEqual(answer(LEAST + "piece 0 0\naxes 4\nresult 9 0 4\ninput 1\n" + END_LINE), NO_TEXT)


class Words(unittest.TestCase):
    def test_unknown_words(self):
        for spot, one in enumerate(EXAMPLE_LINES):
            word, blank, rest = one.partition(" ")
            for other in ("", "x", word + "x", word[:-1], word.upper(), word.capitalize(), "0", "28"):
                self.assertEqual(answer(example_text(**{f"line_{spot}": other + blank + rest})), NO_TEXT)

    def test_every_op_has_its_word(self):
        for number, word in enumerate(WORDS):
            # An op that stands wrong is told by what 4, one without its word by -5.
            found = ask(read("code 0\nmain\n" + word + " 0 0 0 0 0 0 0 0 0 0\n" + END_LINE))[0]
            self.assertNotEqual(found, NO_TEXT, word)
            found = ask(read(LEAST + "piece 0 0\naxes 4\nresult 9 0 4\n" + word + " 0 0 0 0 0 0 0 0 0 0\n" + END_LINE))
            self.assertNotEqual(found[0], NO_TEXT, word)

    def test_words_and_numbers_of_ops(self):
        good = [
            ins("end"), ins("const"), ins("place"), ins("move"), ins("two", kind=1), ins("one", kind=1),
            ins("fused", kind=9), ins("mantissa", kind=9), ins("convert"), ins("compare"), ins("isnan", kind=9),
            ins("choose"), ins("test", dst=1), ins("masks", dst=1), ins("cell"), ins("store"), ins("hand", aux=1),
            ins("fail"), ins("skip", to=1), ins("loop"), ins("round", to=3), ins("back", to=1), None, None, None, None,
            ins("function", kind=9), ins("power", kind=9), ins("draw", kind=8),
        ]
        loop = [good[19], good[20], good[21]]
        for number, one in enumerate(good):
            if one is None:
                continue
            body = [] if number == 0 else loop if number in (19, 20, 21) else [dict(one)]
            place = number - 19 if number in (19, 20, 21) else 0
            told = code(pieces=[piece(inputs=[shape(1)], results=[(9, [4], 0), (9, [], 0)], body=body + [END])])
            self.assertEqual(ask(read(to_text(told)), [6, 1, place])[1][:2], [0, number], WORDS[number])

    def test_words_and_numbers_of_mains_ops(self):
        main = [ins("call"), ins("tell"), ins("ask"), ins("copy"), END]
        told = code(slots=[shape(3, 4)], names=[b"a"], calls=[call(1, 10, 3, results="s0")], main=main)
        found = ask(read(to_text(told)), *[[6, 0, place] for place in range(4)])
        self.assertEqual([one[1] for one in found[1:]], [22, 23, 24, 25])

    def test_how_many_words(self):
        wrong = [
            "code\nmain\n" + END_LINE, "code 0 0\nmain\n" + END_LINE, "code 0\nmain 0\n" + END_LINE,
            "code 0\nslot\nmain\n" + END_LINE, "code 0\nslot 1 1 1 1 1 1\nmain\n" + END_LINE,
            "code 0\nname\nmain\n" + END_LINE, "code 0\nname 61 62\nmain\n" + END_LINE,
            "code 0\nmain\nend 0 0 0 0 0 0 0 0 0\n", "code 0\nmain\nend 0 0 0 0 0 0 0 0 0 0 0\n", "code 0\nmain\nend\n",
            LEAST + PIECE.replace("piece 0 0", "piece 0"), LEAST + PIECE.replace("piece 0 0", "piece 0 0 0"),
            LEAST + PIECE.replace("axes 4", "axes 1 1 1 1 1"), LEAST + PIECE.replace("result 9 0 4", "result 9"),
            LEAST + PIECE.replace("result 9 0 4", "result"), LEAST + PIECE.replace("result 9 0 4", "result 9 0 1 1 1 1 1"),
            LEAST + PIECE.replace("result 9", "input\nresult 9"),
            LEAST + PIECE.replace("result 9", "input 1 1 1 1 1 1\nresult 9"),
        ]
        for text in wrong:
            self.assertEqual(answer(text), NO_TEXT, text)

    def test_as_many_words_as_there_may_be(self):
        right = [
            "code 0\nslot 1\nslot 1 1 1 1 1\nmain\n" + END_LINE, LEAST + PIECE.replace("axes 4", "axes 1 1 1 1"),
            LEAST + PIECE.replace("result 9 0 4", "result 9 2"),
            LEAST + PIECE.replace("result 9 0 4", "result 9 0 1 1 1 1"),
            LEAST + PIECE.replace("result 9", "input 1\ninput 1 1 1 1 1\nresult 9"),
        ]
        for text in right:
            self.assertEqual(answer(text), [0], text)

    def test_axes_without_axes_are_told_as_wrong_bounds(self):
        self.assertEqual(answer(LEAST + PIECE.replace("axes 4", "axes")), [-2, 2, 0])


class Numbers(unittest.TestCase):
    # A line, and of each of its numbers the largest that the bytes can tell.
    MOST = (
        ("code 0\nmain\n" + END_LINE, 0, (4294967295,)),
        ("code 0\nslot 1 1 1 1 1\nmain\n" + END_LINE, 1, (255,) + (4294967295,) * 4),
        ("code 0\ncall 1 0 0 0 0 s 0 n 0 > s 0 n 0\nmain\n" + END_LINE, 1,
         (1, 255, 255, 18446744073709551615, 18446744073709551615, None, 65535, None, 65535, None, None, 65535, None,
          65535)),
        ("code 0\nmain\n" + END_LINE, 2,
         (255, 255, 255, 65535, 65535, 65535, 65535, 4294967295, 18446744073709551615, 4294967295)),
        (LEAST + PIECE, 3, (4294967295, 1)),
        (LEAST + PIECE.replace("axes 4", "axes 4 1 1 1"), 4, (4294967295,) * 4),
        (LEAST + PIECE, 5, (255, 255, 4294967295)),
        (LEAST + PIECE.replace("result", "input 1 1 1 1 1\nresult"), 5, (255,) + (4294967295,) * 4),
    )

    def with_word(self, text, spot, place, word):
        lines = text.splitlines()
        words = lines[spot].split(" ")
        words[place + 1] = word
        lines[spot] = " ".join(words)
        return "\n".join(lines) + "\n"

    def each_number(self):
        for text, spot, most_of_each in self.MOST:
            for place, most in enumerate(most_of_each):
                if most is not None:
                    yield text, spot, place, most

    def test_largest_numbers(self):
        for text, spot, place, most in self.each_number():
            self.assertNotEqual(answer(self.with_word(text, spot, place, str(most))), NO_TEXT, (spot, place))

    def test_numbers_too_large(self):
        for text, spot, place, most in self.each_number():
            for number in (most + 1, most * 10, 10 ** 20, 10 ** 5000):
                word = "1" + "0" * 5000 if number == 10 ** 5000 else str(number)
                self.assertEqual(answer(self.with_word(text, spot, place, word)), NO_TEXT, (spot, place))

    def test_no_0_before_other_digits(self):
        for text, spot, place, most in self.each_number():
            for word in ("00", "01", "0" * 30, "0" * 30 + "1"):
                self.assertEqual(answer(self.with_word(text, spot, place, word)), NO_TEXT, (spot, place))

    def test_what_is_no_number(self):
        for text, spot, place, most in self.each_number():
            for word in ("", "-1", "+1", "1_0", "a", "0x1", "1.0", "\xb2", "\xb9", "s", ">"):
                self.assertEqual(answer(self.with_word(text, spot, place, word)), NO_TEXT, (spot, place))

    def test_sort_and_flag(self):
        self.assertEqual(answer("code 0\nslot 3 4\ncall 1 10 3 0 0 > s 0\nmain\n" + END_LINE), [0])
        self.assertEqual(answer("code 0\nslot 3 4\ncall 2 10 3 0 0 > s 0\nmain\n" + END_LINE), NO_TEXT)
        self.assertEqual(answer(LEAST + PIECE.replace("piece 0 0", "piece 0 1")), [0])
        self.assertEqual(answer(LEAST + PIECE.replace("piece 0 0", "piece 0 2")), NO_TEXT)


class Names(unittest.TestCase):
    def answer_of_name(self, word):
        return answer("code 0\nname " + word + "\nmain\n" + END_LINE)

    def test_digits(self):
        text = "code 0\nname 0123456789abcdef\nmain\n" + END_LINE
        self.assertEqual(ask(read(text), [5, 0]), [[0], [0, 1, 35, 69, 103, 137, 171, 205, 239]])

    def test_wrong_digits(self):
        for word in ("", "6", "616", "6A", "A6", "g1", "1g", "6 1", "0x61", "61,", ">1", "\xff1"):
            self.assertEqual(self.answer_of_name(word), NO_TEXT, word)

    def test_how_many_bytes(self):
        for count, expected in ((1, [0]), (32, [0]), (33, [-2, 2, 0]), (255, [-2, 2, 0]), (256, NO_TEXT), (1000, NO_TEXT)):
            self.assertEqual(self.answer_of_name("61" * count), expected)


class Calls(unittest.TestCase):
    def answer_of_call(self, rest):
        return answer("code 0\nslot 1 4\ncall " + rest + "\nmain\n" + END_LINE)

    def test_good(self):
        self.assertEqual(self.answer_of_call("1 0 1 0 255 s 0 > n 0"), [0])

    def test_no_holds(self):
        self.assertEqual(self.answer_of_call("1 0 1 0 255 >"), [-2, 3, 0])

    def test_wrong_forms(self):
        for rest in (
            "1 0 1 0 255 s 0 n 0", "1 0 1 0 255 s 0 >> n 0", "1 0 1 0 255 s 0 > > n 0", "1 0 1 0 255 > s 0 > n 0",
            "1 0 1 0 255 s > n 0", "1 0 1 0 255 s 0 > n", "1 0 1 0 255 0 > n 0", "1 0 1 0 255 s 0 > 0", "1 0 1 0 255",
            "1 0 1 0 255 s0 > n0", "1 0 1 0 255 p 0 > n 0", "1 0 1 0 255 s 0 > N 0", "1 0 1 0 255 0 s > n 0",
            "1 0 1 0 > s 0 n 0", "1 0 1 0 255 7 s 0 > n 0", "1 0 1 0 255 s 0 > n 0 7", "> 1 0 1 0 255 s 0 n 0", "", ">",
        ):
            self.assertEqual(self.answer_of_call(rest), NO_TEXT, rest)


class HowMany(unittest.TestCase):
    def both(self, least, make, most):
        self.assertEqual(answer(make(most)), least)
        self.assertEqual(answer(make(most + 1)), NO_TEXT)

    def test_slots(self):
        self.both([0], lambda count: "code 0\n" + "slot 1\n" * count + "main\n" + END_LINE, 256)

    def test_names(self):
        self.both([0], lambda count: "code 0\n" + "name 61\n" * count + "main\n" + END_LINE, 256)

    def test_pieces(self):
        self.both([0], lambda count: LEAST + PIECE * count, 256)

    def test_calls(self):
        one = "call 1 10 3 0 0 > s 0\n"
        self.both([0], lambda count: "code 0\nslot 3 4\n" + one * count + "main\n" + END_LINE, 4096)

    def test_instructions_of_main(self):
        one = END_LINE.replace("end", "fail")
        self.both([0], lambda count: "code 0\nmain\n" + one * (count - 1) + END_LINE, 65536)

    def test_instructions_of_all_bodies_together(self):
        one = END_LINE.replace("end", "fail")
        self.both([0], lambda count: LEAST + PIECE.replace("end", "fail") + one * (count - 4) + END_LINE + PIECE, 65536)

    def test_inputs(self):
        self.both([0], lambda count: LEAST + PIECE.replace("result", "input 1\n" * count + "result"), 8)

    def test_results(self):
        self.both([0], lambda count: LEAST + PIECE.replace("result 9 0 4\n", "result 9 0 4\n" * count), 8)

    def test_operands(self):
        self.both([-2, 3, 0], lambda count: "code 0\n" + line("call 1 10 3 0 0" + " n 0" * count, ">", "n 1") + "main\n"
                  + END_LINE, 8)

    def test_results_of_a_call(self):
        self.both([-2, 3, 0], lambda count: "code 0\n" + line("call 1 10 3 0 0 >" + " n 0" * count) + "main\n" + END_LINE,
                  8)


if __name__ == "__main__":
    unittest.main()
