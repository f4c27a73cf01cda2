"""What 5: ways. Each instruction is asked for its own rules."""

from lanecode.fields import named_in_main
from lanecode.loops import holders_of, loops_of
from lanecode.main_ops import OF_SLOT
from lanecode.parts import NUMBER, bodies_of

MOST_LOOPS_AROUND = 15
MOST_ROUNDS = 1048576
PUTTING_NO_DST = ("back", "copy")


def end_is_kept(instructions, place):
    return (instructions[place].word == "end") == (place == len(instructions) - 1)


def skip_is_kept(instructions, loops, place):
    target = instructions[place].to
    if target <= place or target >= len(instructions):
        return False
    return loops.innermost[target] == loops.innermost[place]


def no_round_is_skipped(instructions, loops, place):
    holder = loops.innermost[place]
    if holder is None:
        return True
    target = instructions[place].to
    return len([spot for spot in loops.rounds[holder] if place < spot < target]) == 0


def loop_is_kept(loops, place):
    return loops.depth[place] <= MOST_LOOPS_AROUND and place in loops.back_of_loop


def main_loop_is_kept(instructions, loops, place):
    if not loop_is_kept(loops, place):
        return False
    loop = instructions[place]
    return loop.to == loops.back_of_loop[place] + 1 and loop.imm <= MOST_ROUNDS


def back_is_kept(instructions, loops, place):
    return place in loops.loop_of_back and instructions[place].to == loops.loop_of_back[place] + 1


def main_back_is_kept(instructions, loops, place):
    if not back_is_kept(instructions, loops, place):
        return False
    back = instructions[place]
    loop = instructions[loops.loop_of_back[place]]
    return back.dst == loop.dst and back.imm == loop.imm


def round_is_kept(instructions, loops, place):
    holder = loops.innermost[place]
    if holder is None or holder not in loops.back_of_loop:
        return False
    return instructions[place].imm <= MOST_ROUNDS and instructions[place].to == loops.back_of_loop[holder] + 1


def puts_of(code, instruction):
    """The numbers' places that one of main's instructions puts."""
    if instruction.word == "call":
        return [hold.number for hold in code.calls[instruction.imm].results if hold.bank == NUMBER]
    if instruction.word in PUTTING_NO_DST or "dst" not in named_in_main(instruction.word):
        return []
    if instruction.word == "ask" and instruction.aux == OF_SLOT:
        return []
    return [instruction.dst]


def puts_are_kept(code, loops, place):
    counted = [code.main[loop].dst for loop in holders_of(loops, place)]
    return not any([put in counted for put in puts_of(code, code.main[place])])


def main_place_is_kept(code, loops, place):
    word = code.main[place].word
    if not end_is_kept(code.main, place) or not puts_are_kept(code, loops, place):
        return False
    if word == "loop":
        return main_loop_is_kept(code.main, loops, place)
    if word == "back":
        return main_back_is_kept(code.main, loops, place)
    if word == "skip":
        return skip_is_kept(code.main, loops, place)
    return True


def body_place_is_kept(body, loops, place):
    word = body[place].word
    if not end_is_kept(body, place):
        return False
    if word == "loop":
        return loop_is_kept(loops, place) and len(loops.rounds[place]) == 1
    if word == "back":
        return back_is_kept(body, loops, place)
    if word == "round":
        return round_is_kept(body, loops, place)
    if word == "skip":
        return skip_is_kept(body, loops, place) and no_round_is_skipped(body, loops, place)
    return True


def wrong_place(code, instructions, in_main):
    """The first place whose own rule is not kept; None if all are kept."""
    # An end is missing there: it would have been the first instruction.
    if len(instructions) == 0:
        return 0
    loops = loops_of(instructions)
    for place in range(len(instructions)):
        if in_main and not main_place_is_kept(code, loops, place):
            return place
        if not in_main and not body_place_is_kept(instructions, loops, place):
            return place
    return None


def wrong_way(code):
    """The first instruction whose own rule is not kept, numbered through; None if all are kept."""
    first = 0
    for number, instructions in enumerate(bodies_of(code)):
        place = wrong_place(code, instructions, number == 0)
        if place is not None:
            return first + place
        first = first + len(instructions)
    return None
