"""Instructions done one behind another."""

from windowstepsdesk.branches import do_call, do_high_or_branch
from windowstepsdesk.memory import BYTES
from windowstepsdesk.moves import do_move
from windowstepsdesk.operations import do_operation


def do_step(machine, memory):
    """Does the instruction at this place; the trap's number, 0 for none."""
    if machine.place >= BYTES:
        return 1
    # A place of an instruction is always a multiple of 4, so a whole word is there.
    word = memory.words[machine.place >> 2]
    form = word >> 30
    if form == 2:
        return do_operation(machine, word)
    if form == 3:
        return do_move(machine, memory, word)
    if form == 1:
        return do_call(machine, word)
    return do_high_or_branch(machine, word)


def do_steps(machine, memory, steps):
    """How many instructions were done, and the trap's number, 0 for none."""
    for done in range(steps):
        trap = do_step(machine, memory)
        if trap != 0:
            return [done, trap]
    return [steps, 0]
