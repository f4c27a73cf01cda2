"""What is told of code that is held."""

from lanecode.bytes_out import bytes_of_code
from lanecode.often import most_of
from lanecode.parts import bodies_of, eleven_numbers
from lanecode.shapes import bytes_of_slots
from lanecode.text_out import text_of_code
from lanecode.uses import uses_of_slot

# 2^62: from here on most tells no number.
TOO_OFTEN = 4611686018427387904


def tell_counts(code):
    all_instructions = sum([len(body) for body in bodies_of(code)])
    return [
        0, len(code.slots), code.data_slots, len(code.names), len(code.pieces), len(code.calls),
        len(code.main), all_instructions, bytes_of_slots(code.slots),
    ]


def tell_slot(code, number):
    if number >= len(code.slots):
        return [-4]
    shape = code.slots[number]
    return [0, shape.kind] + shape.lengths


def tell_name(code, number):
    if number >= len(code.names):
        return [-4]
    return [0] + code.names[number]


def tell_at(code, body_number, place):
    bodies = bodies_of(code)
    if body_number >= len(bodies) or place >= len(bodies[body_number]):
        return [-4]
    return [0] + eleven_numbers(bodies[body_number][place])


def tell_where(code, body_number, where):
    bodies = bodies_of(code)
    if body_number >= len(bodies):
        return [-4]
    places = [place for place, instruction in enumerate(bodies[body_number]) if instruction.where == where]
    return [len(places)] + places[:1]


def tell_uses(code, slot):
    if slot >= len(code.slots):
        return [-4]
    return [uses_of_slot(code, slot)]


def tell_most(code, body_number):
    bodies = bodies_of(code)
    if body_number >= len(bodies):
        return [-4]
    most = most_of(bodies[body_number], body_number == 0)
    if most >= TOO_OFTEN:
        return [-6]
    return [most]


def tell_text(code):
    return [0] + text_of_code(code)


def tell_bytes(code):
    return [0] + bytes_of_code(code)
