"""What 2: bounds of slots, names and pieces, as bytes and as a text."""

import unittest

from helper import END, code, judged, piece, shape

MOST = 1048576
CELL_BYTES = (1, 1, 2, 4, 8, 1, 2, 4, 8, 2, 2, 4, 8)

GOOD_SHAPES = [shape(kind) for kind in range(13)] + [shape(kind, 3) for kind in range(13)] + [
    shape(1, 0), shape(1, MOST), shape(1, 1024, 1024), shape(1, MOST, 1), shape(1, 1, 1, 1, MOST),
    shape(1, 0, MOST, MOST, MOST), shape(1, 32, 32, 32, 32), shape(1, 1, 1, 1, 1),
]
WRONG_SHAPES = [shape(13), shape(13, 3), shape(255), shape(1, MOST + 1), shape(1, 4294967295), shape(1, 1024, 1025),
                shape(1, MOST, 2), shape(1, 0, MOST + 1), shape(1, MOST + 1, 0), shape(1, 32, 32, 32, 33),
                shape(1, 4294967295, 0), shape(1, 65536, 65536)]


class Slots(unittest.TestCase):
    def test_shapes_that_may_be(self):
        for one in GOOD_SHAPES:
            self.assertEqual(judged(code(slots=[shape(1), one])), [0], one)

    def test_shapes_that_may_not_be(self):
        for one in WRONG_SHAPES:
            self.assertEqual(judged(code(slots=[shape(1), one, one])), [-2, 2, 1], one)

    def test_data_slots(self):
        for d in (0, 1, 2):
            self.assertEqual(judged(code(d=d, slots=[shape(1)] * 2)), [0])
        for d in (3, 4294967295):
            self.assertEqual(judged(code(d=d, slots=[shape(1)] * 2)), [-2, 2, 2])

    def test_data_slots_without_slots(self):
        self.assertEqual(judged(code(d=1)), [-2, 2, 0])

    def test_bytes_of_all_slots(self):
        full = [shape(4, MOST)] * 6
        self.assertEqual(judged(code(slots=full)), [0])
        self.assertEqual(judged(code(slots=full + [shape(1, 0)] * 3)), [0])
        self.assertEqual(judged(code(slots=full + [shape(0)])), [-2, 2, 7])

    def test_bytes_of_each_kind(self):
        """How many full slots there may be tells how many bytes a cell has."""
        for kind, width in enumerate(CELL_BYTES):
            count = 48 // width
            full = [shape(kind, MOST)] * count
            self.assertEqual(judged(code(slots=full)), [0], kind)
            self.assertEqual(judged(code(slots=full + [shape(kind, 1)])), [-2, 2, count + 1], kind)

    def test_bytes_go_up_to_the_next_multiple_of_64(self):
        for cells, rest in ((65, 128), (64, 64), (63, 64), (1, 64)):
            # As one-byte cells: what is left for the last slot is just enough, or 1 too few.
            slots = [shape(4, MOST)] * 5 + [shape(4, MOST - rest // 8), shape(1, cells)]
            self.assertEqual(judged(code(slots=slots)), [0], cells)
            slots = [shape(4, MOST)] * 5 + [shape(4, MOST - rest // 8 + 1), shape(1, cells)]
            self.assertEqual(judged(code(slots=slots)), [-2, 2, 7], cells)


class Names(unittest.TestCase):
    def test_good(self):
        for name in (b"a", b"a" * 32, b"\x01", b"\xff" * 32, bytes(range(1, 33))):
            self.assertEqual(judged(code(names=[b"a", name])), [0])

    def test_wrong(self):
        for name in (b"", b"a" * 33, b"a" * 255, b"\x00", b"a\x00", b"\x00a", b"a" * 31 + b"\x00"):
            self.assertEqual(judged(code(names=[b"a", name, b""])), [-2, 2, 1])
            self.assertEqual(judged(code(names=[b"a", name, b"a"])), [-2, 2, 1])

    def test_two_of_the_same_bytes(self):
        self.assertEqual(judged(code(names=[b"a", b"a"])), [0])


class Pieces(unittest.TestCase):
    def answer(self, **parts):
        return judged(code(pieces=[piece(), piece(**parts), piece()]))

    def test_axes(self):
        for axes in ([0], [1], [MOST], [1024, 1024], [1, 1, 1, 1], [0, MOST, MOST, MOST]):
            self.assertEqual(self.answer(axes=axes), [0], axes)
        for axes in ([], [MOST + 1], [1024, 1025], [0, MOST + 1], [2, 1, 1, MOST]):
            self.assertEqual(self.answer(axes=axes), [-2, 2, 1], axes)

    def test_inputs(self):
        for one in GOOD_SHAPES:
            self.assertEqual(self.answer(inputs=[one]), [0], one)
            self.assertEqual(self.answer(inputs=[one] * 8), [0], one)
        for one in WRONG_SHAPES:
            self.assertEqual(self.answer(inputs=[one]), [-2, 2, 1], one)
            self.assertEqual(self.answer(inputs=[shape(1)] * 7 + [one]), [-2, 2, 1], one)

    def test_results(self):
        for kind, lengths in GOOD_SHAPES:
            expected = [-2, 2, 1] if kind == 0 and not lengths else [0]
            self.assertEqual(self.answer(results=[(kind, lengths, 0)]), expected)
            self.assertEqual(self.answer(results=[(1, [4], 0)] * 7 + [(kind, lengths, 0)]), expected)
        for kind, lengths in WRONG_SHAPES:
            self.assertEqual(self.answer(results=[(kind, lengths, 0)]), [-2, 2, 1])
            self.assertEqual(self.answer(results=[(1, [4], 0)] * 7 + [(kind, lengths, 0)]), [-2, 2, 1])

    def test_how_many_results(self):
        self.assertEqual(self.answer(results=[]), [-2, 2, 1])
        self.assertEqual(self.answer(results=[(1, [4], 0)]), [0])
        self.assertEqual(self.answer(results=[(1, [4], 0)] * 8), [0])

    def test_join_of_a_result_without_lengths(self):
        for join, expected in ((0, [0]), (1, [0]), (2, [0]), (3, [-2, 2, 1]), (255, [-2, 2, 1])):
            self.assertEqual(self.answer(results=[(1, [], join)]), expected)

    def test_join_of_a_result_with_lengths(self):
        for join, expected in ((0, [0]), (1, [-2, 2, 1]), (2, [-2, 2, 1]), (255, [-2, 2, 1])):
            self.assertEqual(self.answer(results=[(1, [4], join)]), expected)
            self.assertEqual(self.answer(results=[(1, [0], join)]), expected)

    def test_truth_results(self):
        self.assertEqual(self.answer(results=[(0, [4], 0)]), [0])
        for join in (0, 1, 2):
            self.assertEqual(self.answer(results=[(0, [], join)]), [-2, 2, 1])

    def test_place_and_flag_are_any(self):
        self.assertEqual(self.answer(place=4294967295, flag=1), [0])


class Order(unittest.TestCase):
    BAD_SLOT = dict(slots=[shape(1), shape(1), shape(13), shape(13)])
    BAD_NAME = dict(names=[b"a", b"\x00", b"\x00"])
    BAD_PIECE = dict(pieces=[piece(axes=[]), piece(results=[])])

    def test_slots_before_names(self):
        self.assertEqual(judged(code(**self.BAD_SLOT, **self.BAD_NAME)), [-2, 2, 2])

    def test_names_before_pieces(self):
        self.assertEqual(judged(code(**self.BAD_NAME, **self.BAD_PIECE)), [-2, 2, 1])

    def test_pieces_before_data_slots(self):
        self.assertEqual(judged(code(d=9, slots=[shape(1)] * 2, **self.BAD_PIECE)), [-2, 2, 0])

    def test_pieces_before_bytes_of_all_slots(self):
        self.assertEqual(judged(code(slots=[shape(4, MOST)] * 7, **self.BAD_PIECE)), [-2, 2, 0])

    def test_slots_before_all(self):
        self.assertEqual(judged(code(d=9, **self.BAD_SLOT, **self.BAD_NAME, **self.BAD_PIECE)), [-2, 2, 2])

    def test_data_slots_and_bytes_are_told_alike(self):
        self.assertEqual(judged(code(d=9, slots=[shape(4, MOST)] * 7)), [-2, 2, 7])

    def test_bounds_before_all_that_follows(self):
        self.assertEqual(judged(code(d=9, slots=[shape(1)], main=[END, END])), [-2, 2, 1])


if __name__ == "__main__":
    unittest.main()
