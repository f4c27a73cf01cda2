"""What the two readers make of the same code: all of it, also what no call answers."""

import unittest

from helper import EXAMPLE, RICH, code, piece, shape, to_bytes, to_text
from lanecode.bytes_in import code_of_bytes
from lanecode.text_in import code_of_text
from plain_code import plain


class Readers(unittest.TestCase):
    def test_bytes_and_text_tell_the_same_code(self):
        flags = code(pieces=[piece(place=3, flag=1), piece(place=5, inputs=[shape(1)], results=[(3, [], 2), (0, [7], 0)])])
        for told in (EXAMPLE, RICH, flags, code()):
            self.assertEqual(plain(code_of_bytes(to_bytes(told))), told)
            self.assertEqual(plain(code_of_text(list(to_text(told).encode()))), told)


if __name__ == "__main__":
    unittest.main()
