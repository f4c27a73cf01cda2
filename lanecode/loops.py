"""Which loops there are in a body or in main, and what they hold.

Loops lie in one another. So the innermost loop that holds an instruction tells all that do, and two instructions
are held by just the same loops if the innermost one of both is the same.
"""


class Loops:
    """Loops are told by their places."""

    def __init__(self):
        # Of each place the innermost loop that holds it, None where none does.
        self.innermost = []
        self.back_of_loop = {}
        self.loop_of_back = {}
        # Of each loop how many loops it stands in, and the rounds that it holds as the innermost.
        self.depth = {}
        self.rounds = {}


def loops_of(instructions):
    loops = Loops()
    begun = []
    for place, instruction in enumerate(instructions):
        holder = begun[-1] if len(begun) > 0 else None
        loops.innermost.append(holder)
        if instruction.word == "loop":
            loops.depth[place] = len(begun)
            loops.rounds[place] = []
            begun.append(place)
        elif instruction.word == "back" and holder is not None:
            loops.back_of_loop[holder] = place
            loops.loop_of_back[place] = holder
            begun.pop()
        elif instruction.word == "round" and holder is not None:
            loops.rounds[holder].append(place)
    return loops


def holders_of(loops, place):
    """All loops that hold the place, the innermost first."""
    holders = []
    holder = loops.innermost[place]
    while holder is not None:
        holders.append(holder)
        holder = loops.innermost[holder]
    return holders
