"""The call (bits 31 and 30 are 1), the high bits of a register and the branches (bits 31 and 30 are 0).

Each function does one instruction and answers the trap's number, 0 for none.
"""

from windowstepsdesk.conditions import holds
from windowstepsdesk.words import condition_code, destination, with_sign


def do_call(machine, word):
    """Register 15 becomes this place; a jump to this place and 4 times bits 29 to 0."""
    place = machine.place
    machine.write(15, place)
    machine.jump(place + 4 * (word & 0x3FFFFFFF))
    return 0


def do_high_or_branch(machine, word):
    """What bits 24 to 22 tell of an instruction whose bits 31 and 30 are 0."""
    choice = (word >> 22) & 7
    if choice == 4:
        return set_high(machine, word)
    if choice == 2:
        return branch(machine, word)
    return 2


def set_high(machine, word):
    machine.write(destination(word), 1024 * (word & 0x3FFFFF))
    machine.go_on()
    return 0


def branch(machine, word):
    condition = condition_code(word)
    target = machine.place + 4 * with_sign(word, 22)
    annuls = (word & 0x20000000) != 0
    if holds(condition, machine.conditions):
        take_branch(machine, target, annuls and condition == 8)
    elif annuls:
        machine.move_to(machine.follower + 4)
    else:
        machine.go_on()
    return 0


def take_branch(machine, target, at_once):
    if at_once:
        machine.move_to(target)
    else:
        machine.jump(target)
