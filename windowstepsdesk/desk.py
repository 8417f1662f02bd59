"""The calls on one machine, read from one list of whole numbers and answered in one."""

from windowstepsdesk.machine import Machine
from windowstepsdesk.memory import Memory
from windowstepsdesk.panel import is_known, look, put
from windowstepsdesk.steps import do_steps


def answers(calls):
    """For each call, in order, how many numbers are answered, and these."""
    machine = Machine()
    given = []
    at = 0
    while at < len(calls):
        length = call_length(calls, at)
        answer = one_answer(machine, calls[at:at + length])
        given.append(len(answer))
        given.extend(answer)
        at += length
    return given


def call_length(calls, at):
    """How many numbers the call that begins at this index has."""
    if calls[at] == 0:
        return 1
    if calls[at] == 1:
        return 3
    if calls[at] == 2:
        return 2
    return 3 + calls[at + 2]


def one_answer(machine, call):
    if call[0] == 0:
        return answer_reset(machine)
    if call[0] == 1:
        return answer_set(machine, call[1], call[2])
    if call[0] == 2:
        return answer_get(machine, call[1])
    return answer_run(machine, call[1], call[3:])


def refusal():
    return [-2]


def answer_reset(machine):
    machine.reset()
    return [0]


def answer_set(machine, which, value):
    if not is_known(which):
        return refusal()
    put(machine, which, value)
    return [0]


def answer_get(machine, which):
    if not is_known(which):
        return refusal()
    return [0, look(machine, which)]


def answer_run(machine, steps, first_bytes):
    if not 0 <= steps <= 1000000:
        return refusal()
    memory = Memory(first_bytes)
    answer = do_steps(machine, memory, steps)
    changes = memory.changed()
    answer.append(len(changes))
    answer.extend(changes)
    return answer
