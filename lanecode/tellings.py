"""What is told of code that is held."""

from lanecode.parts import bodies_of, eleven_numbers
from lanecode.shapes import bytes_of_slots


def tell_counts(code):
    all_instructions = sum([len(body) for body in bodies_of(code)])
    return [
        0, len(code.slots), code.data_slots, len(code.names), len(code.pieces), len(code.calls),
        len(code.main), all_instructions, bytes_of_slots(code.slots),
    ]


def tell_slot(code, number):
    if number >= len(code.slots):
        return [-4]
    shape = code.slots[number]
    return [0, shape.kind] + shape.lengths


def tell_name(code, number):
    if number >= len(code.names):
        return [-4]
    return [0] + code.names[number]


def tell_at(code, body_number, place):
    bodies = bodies_of(code)
    if body_number >= len(bodies) or place >= len(bodies[body_number]):
        return [-4]
    return [0] + eleven_numbers(bodies[body_number][place])
