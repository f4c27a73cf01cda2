"""The order in which what isn't so is told: two faults in one code, the first is answered."""

import itertools
import unittest

from helper import END, ask, call, code, ins, judged, load, piece, read, shape, to_bytes, to_text

FAULTS = {
    2: dict(slots=[shape(3, 4), shape(13)]),
    3: dict(calls=[call(1, 10, 3, results="s0"), call(1, 11, 3, results="s0")]),
    4: dict(main=[ins("fail"), ins("place"), END]),
    5: dict(pieces=[piece(body=[ins("fail")])]),
}
GOOD = dict(slots=[shape(3, 4)], calls=[call(1, 10, 3, results="s0")], main=[END], pieces=[piece()])
WHERE = {2: 1, 3: 1, 4: 1, 5: 1}


class Order(unittest.TestCase):
    def test_one_fault(self):
        self.assertEqual(judged(code(**GOOD)), [0])
        for what in FAULTS:
            self.assertEqual(judged(code(**dict(GOOD, **FAULTS[what]))), [-2, what, WHERE[what]])

    def test_two_faults_and_more(self):
        for count in (2, 3, 4):
            for faults in itertools.combinations(FAULTS, count):
                parts = dict(GOOD)
                for what in faults:
                    parts.update(FAULTS[what])
                self.assertEqual(judged(code(**parts)), [-2, faults[0], 1], faults)

    def test_no_code_before_all(self):
        parts = dict(GOOD)
        for what in FAULTS:
            parts.update(FAULTS[what])
        told = code(**parts)
        self.assertEqual(ask(load(to_bytes(told) + [0]), read(to_text(told) + "\n")), [[-2, 1, 0], [-5]])

    def test_instructions_of_bodies_before_ways_of_main(self):
        told = code(main=[ins("fail")], pieces=[piece(body=[ins("fail"), ins("call"), END])])
        self.assertEqual(judged(told), [-2, 4, 2])

    def test_bounds_of_pieces_before_calls(self):
        told = code(calls=[call(0, 9)], pieces=[piece(), piece(axes=[])])
        self.assertEqual(judged(told), [-2, 2, 1])

    def test_bytes_of_all_slots_before_calls(self):
        told = code(slots=[shape(4, 1048576)] * 7, calls=[call(0, 9)])
        self.assertEqual(judged(told), [-2, 2, 7])

    def test_twelfth_number_before_ways(self):
        self.assertEqual(judged(code(main=[ins("end"), ins("end", 1)])), [-2, 4, 1])


if __name__ == "__main__":
    unittest.main()
