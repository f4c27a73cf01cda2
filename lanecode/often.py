"""How often the instructions of good code are done at most."""

from lanecode.loops import holders_of, loops_of


def rounds_in_main(instructions, loop):
    return instructions[loop].imm


def rounds_in_body(instructions, loops, loop, place):
    """What stands behind the loop's round is left out when the round ends the loop; all else is done once more."""
    turn = loops.rounds[loop][0]
    if place > turn:
        return instructions[turn].imm
    return instructions[turn].imm + 1


def times_of(instructions, loops, place, in_main):
    times = 1
    for loop in holders_of(loops, place):
        if in_main:
            times = times * rounds_in_main(instructions, loop)
        else:
            times = times * rounds_in_body(instructions, loops, loop, place)
    return times


def most_of(instructions, in_main):
    loops = loops_of(instructions)
    return sum([times_of(instructions, loops, place, in_main) for place in range(len(instructions))])
