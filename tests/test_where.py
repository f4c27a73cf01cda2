"""The call where: how many instructions of a body have a number as where, and the place of the first."""

import unittest

from helper import END, EXAMPLE, RICH, ask, code, ins, load, piece, read, same, to_bytes, to_text

LARGEST = 4294967295
TOLD = code(
    main=[ins("fail", where=3), ins("fail", where=7), ins("fail", where=7), ins("fail", imm=9, where=LARGEST),
          ins("end", where=7)],
    pieces=[
        piece(body=[ins("fail", where=1), ins("fail", imm=3, mask=3), ins("end", where=3)], place=7),
        piece(body=[ins("end", where=LARGEST)], place=3),
        piece(body=[ins("fail"), ins("fail"), END]),
    ],
)


def where(body, number, told=TOLD):
    by_bytes = ask(load(to_bytes(told)), [7, body, number])[1]
    by_text = ask(read(to_text(told)), [7, body, number])[1]
    if by_bytes != by_text:
        raise ValueError(f"loaded answers {by_bytes}, read {by_text}")
    return by_bytes


class Where(unittest.TestCase):
    def test_a_number_that_none_has(self):
        for body, number in ((0, 0), (0, 1), (0, 9), (1, 7), (1, LARGEST), (2, 3), (2, 0), (3, 1)):
            self.assertEqual(where(body, number), [0], (body, number))

    def test_a_number_that_one_has(self):
        self.assertEqual(where(0, 3), [1, 0])
        self.assertEqual(where(0, LARGEST), [1, 3])
        self.assertEqual(where(1, 1), [1, 0])
        self.assertEqual(where(1, 0), [1, 1])
        self.assertEqual(where(1, 3), [1, 2])
        self.assertEqual(where(2, LARGEST), [1, 0])

    def test_a_number_that_several_have(self):
        self.assertEqual(where(0, 7), [3, 1])
        self.assertEqual(where(3, 0), [3, 0])

    def test_places_are_counted_within_the_body(self):
        self.assertEqual(where(1, 5, EXAMPLE), [1, 2])
        self.assertEqual(where(1, 6, EXAMPLE), [1, 6])
        self.assertEqual(where(1, 0, EXAMPLE), [6, 0])
        self.assertEqual(where(0, 0, EXAMPLE), [3, 0])

    def test_other_bodies_are_not_counted(self):
        self.assertEqual(where(0, 5, EXAMPLE), [0])
        self.assertEqual(where(0, LARGEST, RICH), [1, 1])
        self.assertEqual(where(1, LARGEST, RICH), [0])

    def test_a_body_that_there_is_not(self):
        for body in (4, 5, 256, LARGEST):
            for number in (0, 3, LARGEST):
                self.assertEqual(where(body, number), [-4])
        self.assertEqual(where(1, 0, code()), [-4])
        self.assertEqual(where(0, 0, code()), [1, 0])

    def test_no_code_is_held(self):
        found = ask([7, 0, 0], load([]), [7, 9, 9], read("code"), [7, 0, 0])
        self.assertEqual(found, [[-8], [-2, 1, 0], [-8], [-5], [-8]])

    def test_a_refused_call_changes_nothing(self):
        found = ask(load(to_bytes(TOLD)), [7, 9, 0], same([]), load([]), read(""), [7, 0, 7])
        self.assertEqual(found, [[0], [-4], [-2, 1, 0], [-2, 1, 0], [-5], [3, 1]])


if __name__ == "__main__":
    unittest.main()
