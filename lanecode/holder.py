"""The object that the calls are made on: it holds no code or good code."""

from lanecode.bytes_in import code_of_bytes
from lanecode.errors import NoBytes, NoText
from lanecode.good import first_fault
from lanecode.text_in import code_of_text


class Holder:
    def __init__(self):
        self.code = None

    def load(self, row):
        try:
            code = code_of_bytes(row)
        except NoBytes:
            return [-2, 1, 0]
        return self.hold_if_good(code)

    def read(self, row):
        try:
            code = code_of_text(row)
        except NoText:
            return [-5]
        return self.hold_if_good(code)

    def hold_if_good(self, code):
        fault = first_fault(code)
        if fault is not None:
            return [-2, fault[0], fault[1]]
        self.code = code
        return [0]
