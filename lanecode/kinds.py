"""Kinds: the bytes of their cells, and the operations that they have."""

TRUTH = 0
PLACES_KIND = 3
CELL_BYTES = (1, 1, 2, 4, 8, 1, 2, 4, 8, 2, 2, 4, 8)


def is_kind(kind):
    return 0 <= kind <= 12


def is_whole(kind):
    return 1 <= kind <= 8


def is_floating(kind):
    return 9 <= kind <= 12


def has_operation_of_two(kind, operation):
    if is_floating(kind):
        return 0 <= operation <= 9
    if is_whole(kind):
        return 0 <= operation <= 19
    return kind == TRUTH and 13 <= operation <= 16


def has_operation_of_one(kind, operation):
    if is_floating(kind):
        return 0 <= operation <= 7
    if is_whole(kind):
        return 0 <= operation <= 9
    return kind == TRUTH and operation == 2
