"""Whether code is good: the first thing that is not so, in the document's order."""

from lanecode.bounds import wrong_bound
from lanecode.call_rules import wrong_call
from lanecode.instruction_rules import wrong_instruction
from lanecode.ways import wrong_way


def first_fault(code):
    """What is wrong first, and where; None if the code is good.

    Each check may rely on the ones before it: what they let pass names nothing that there is not.
    """
    where = wrong_bound(code)
    if where is not None:
        return (2, where)
    where = wrong_call(code)
    if where is not None:
        return (3, where)
    where = wrong_instruction(code)
    if where is not None:
        return (4, where)
    where = wrong_way(code)
    if where is not None:
        return (5, where)
    return None
