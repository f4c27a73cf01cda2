"""The document's own examples, all of them."""

import unittest

from helper import END, EXAMPLE, ask, code, example_text, ins, judged, load, piece, read, to_bytes, to_text


def answer(**changed):
    return ask(read(example_text(**changed)))[0]


class Examples(unittest.TestCase):
    def test_the_text_is_good(self):
        self.assertEqual(answer(), [0])

    def test_the_helper_tells_the_same_code(self):
        self.assertEqual(to_text(EXAMPLE), example_text())
        self.assertEqual(judged(EXAMPLE), [0])

    def test_counts(self):
        for told in (read(example_text()), load(to_bytes(EXAMPLE))):
            self.assertEqual(ask(told, [3]), [[0], [0, 2, 1, 0, 1, 1, 3, 11, 128]])

    def test_most_uses_and_where(self):
        for told in (read(example_text()), load(to_bytes(EXAMPLE))):
            found = ask(told, [9, 1], [9, 0], [8, 0], [8, 1], [7, 1, 5])
            self.assertEqual(found, [[0], [8], [3], [1], [2], [1, 2]])

    def test_most_of_loops_in_one_another(self):
        body = [
            ins("loop"), ins("round", imm=3, to=8), ins("loop"), ins("move"), ins("round", imm=5, to=7), ins("move"),
            ins("back", to=3), ins("back", to=1), END,
        ]
        told = code(pieces=[piece(body=body)])
        for given in (read(to_text(told)), load(to_bytes(told))):
            self.assertEqual(ask(given, [9, 1]), [[0], [78]])

    def test_skip_for_tell(self):
        self.assertEqual(answer(line_6="skip 0 0 0 0 0 0 0 0 0 2"), [0])

    def test_skip_behind_the_end(self):
        self.assertEqual(answer(line_6="skip 0 0 0 0 0 0 0 0 0 3"), [-2, 5, 1])

    def test_store_of_a_result_that_there_is_not(self):
        self.assertEqual(answer(line_18="store 0 0 1 0 1 2 0 6 0 0"), [-2, 4, 9])

    def test_without_the_last_line(self):
        self.assertEqual(answer(line_19=None), [-2, 5, 9])

    def test_first_slot_of_another_shape(self):
        self.assertEqual(answer(line_1="slot 9 5"), [-2, 3, 0])

    def test_without_a_last_byte_10(self):
        self.assertEqual(ask(read(example_text()[:-1])), [[-5]])


if __name__ == "__main__":
    unittest.main()
