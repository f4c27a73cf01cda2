"""The object that the calls are made on: it holds no code or good code."""

from lanecode.bytes_in import code_of_bytes
from lanecode.errors import NoBytes, NoText
from lanecode.good import first_fault
from lanecode.sameness import are_same
from lanecode.text_in import code_of_text

# What and where of bytes that are no code's.
NO_CODE = (1, 0)


def refusal_of(fault):
    return [-2, fault[0], fault[1]]


class Holder:
    def __init__(self):
        self.code = None

    def load(self, row):
        try:
            code = code_of_bytes(row)
        except NoBytes:
            return refusal_of(NO_CODE)
        return self.hold_if_good(code)

    def read(self, row):
        try:
            code = code_of_text(row)
        except NoText:
            return [-5]
        return self.hold_if_good(code)

    def hold_if_good(self, code):
        fault = first_fault(code)
        if fault is not None:
            return refusal_of(fault)
        self.code = code
        return [0]

    def same(self, row):
        """Asked only while code is held."""
        try:
            other = code_of_bytes(row)
        except NoBytes:
            return refusal_of(NO_CODE)
        fault = first_fault(other)
        if fault is not None:
            return refusal_of(fault)
        return [1 if are_same(self.code, other) else 0]
