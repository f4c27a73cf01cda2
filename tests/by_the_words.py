"""What the document's words ask where, uses, most and same to answer, taken one by one over plain dicts."""

from helper import bodies_of, loops_around, own_copy


def where_of(told, number, where):
    bodies = bodies_of(told)
    if number >= len(bodies):
        return [-4]
    places = [place for place, one in enumerate(bodies[number]) if one["where"] == where]
    return [len(places), places[0]] if places else [0]


def uses_of(told, slot):
    if slot >= len(told["slots"]):
        return [-4]
    count = 0
    for one in told["calls"]:
        if (0, slot) in one["operands"] or (0, slot) in one["results"]:
            count += 1
    for one in told["main"]:
        op, aux = one["op"], one["aux"]
        if op == 14 and aux == slot:
            count += 1
        if op == 23 and aux == 1 and one["a"] == slot:
            count += 1
        if op == 24 and aux == 1 and one["dst"] == slot:
            count += 1
        if op == 25 and (one["a"] == slot or one["dst"] == slot):
            count += 1
    return [count]


def times_of_each(body, in_main):
    """How often each instruction of good code is done at most."""
    ended_by, held_by = loops_around(body)
    found = []
    for place in range(len(body)):
        times = 1
        for loop in held_by[place]:
            if in_main:
                times *= body[loop]["imm"]
                continue
            turn = [spot for spot in range(len(body)) if body[spot]["op"] == 20 and max(held_by[spot]) == loop][0]
            times *= body[turn]["imm"] + (0 if place > turn else 1)
        found.append(times)
    return found


def most_of(told, number):
    bodies = bodies_of(told)
    if number >= len(bodies):
        return [-4]
    most = sum(times_of_each(bodies[number], number == 0))
    return [most] if most < 2 ** 62 else [-6]


def what_same_looks_at(told):
    told = own_copy(told)
    for body in bodies_of(told):
        for one in body:
            del one["where"]
    for one in told["pieces"]:
        del one["place"]
    for one in told["main"]:
        if one["op"] == 24:
            one["imm"] = told["names"][one["imm"]]
    del told["names"]
    return told


def same_of(one, other):
    """Of two good codes."""
    return [1 if what_same_looks_at(one) == what_same_looks_at(other) else 0]
