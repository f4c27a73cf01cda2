"""What the two readers make of the same code: all of it, also what no call answers."""

import unittest

from helper import EXAMPLE, FIELDS, RICH, code, piece, shape, to_bytes, to_text
from lanecode.bytes_in import code_of_bytes
from lanecode.text_in import code_of_text


def plain_shape(told):
    return (told.kind, told.lengths)


def plain_instruction(told):
    return dict({field: getattr(told, field) for field in FIELDS}, op=told.op, twelfth=told.twelfth)


def plain_piece(told):
    return dict(
        axes=told.axes, inputs=[plain_shape(one) for one in told.inputs],
        results=[plain_shape(one.shape) + (one.joining,) for one in told.results], place=told.place, flag=told.flag,
        body=[plain_instruction(one) for one in told.body])


def plain_call(told):
    return dict(
        sort=told.form, which=told.which, kind=told.kind, u=told.u, v=told.v,
        operands=[(one.bank, one.number) for one in told.operands],
        results=[(one.bank, one.number) for one in told.results])


def plain(told):
    return dict(
        d=told.data_slots, slots=[plain_shape(one) for one in told.slots], names=told.names,
        pieces=[plain_piece(one) for one in told.pieces], calls=[plain_call(one) for one in told.calls],
        main=[plain_instruction(one) for one in told.main])


class Readers(unittest.TestCase):
    def test_bytes_and_text_tell_the_same_code(self):
        flags = code(pieces=[piece(place=3, flag=1), piece(place=5, inputs=[shape(1)], results=[(3, [], 2), (0, [7], 0)])])
        for told in (EXAMPLE, RICH, flags, code()):
            self.assertEqual(plain(code_of_bytes(to_bytes(told))), told)
            self.assertEqual(plain(code_of_text(list(to_text(told).encode()))), told)


if __name__ == "__main__":
    unittest.main()
