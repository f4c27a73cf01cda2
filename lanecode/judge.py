"""The calls on one object, one behind another, and what they answer."""

from lanecode.holder import Holder
from lanecode.tellings import (
    tell_at, tell_bytes, tell_counts, tell_most, tell_name, tell_slot, tell_text, tell_uses, tell_where,
)

LOAD = 1
READ = 2
COUNTS = 3
SLOT = 4
NAME = 5
AT = 6
WHERE = 7
USES = 8
MOST = 9
TEXT = 10
SAME = 12
# Of each call, by its number: how many whole numbers it has, and how many rows. No call has the number 0.
NUMBERS_OF_CALL = (0, 0, 0, 0, 1, 1, 2, 2, 1, 1, 0, 0, 0)
ROWS_OF_CALL = (0, 1, 1, 0, 0, 0, 0, 0, 0, 0, 0, 0, 1)


def answer_of_code(code, number, wholes):
    if number == COUNTS:
        return tell_counts(code)
    if number == SLOT:
        return tell_slot(code, wholes[0])
    if number == NAME:
        return tell_name(code, wholes[0])
    if number == AT:
        return tell_at(code, wholes[0], wholes[1])
    if number == WHERE:
        return tell_where(code, wholes[0], wholes[1])
    if number == USES:
        return tell_uses(code, wholes[0])
    if number == MOST:
        return tell_most(code, wholes[0])
    if number == TEXT:
        return tell_text(code)
    # Of the calls only bytes is left.
    return tell_bytes(code)


def answer_of_call(holder, number, wholes, row):
    if number == LOAD:
        return holder.load(row)
    if number == READ:
        return holder.read(row)
    if holder.code is None:
        return [-8]
    if number == SAME:
        return holder.same(row)
    return answer_of_code(holder.code, number, wholes)


def answers(calls):
    """Of each call, in order: how many numbers are answered, then these."""
    holder = Holder()
    told = []
    spot = 0
    while spot < len(calls):
        number = calls[spot]
        spot = spot + 1
        wholes = calls[spot:spot + NUMBERS_OF_CALL[number]]
        spot = spot + NUMBERS_OF_CALL[number]
        row = []
        if ROWS_OF_CALL[number] > 0:
            row = calls[spot + 1:spot + 1 + calls[spot]]
            spot = spot + 1 + len(row)
        answer = answer_of_call(holder, number, wholes, row)
        told.append(len(answer))
        told.extend(answer)
    return told
