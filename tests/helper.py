"""Calls and instructions written as numbers, and answers taken apart again."""

from windowstepsdesk.desk import answers

TOP = 2 ** 32 - 1
Y, CONDITIONS, PLACE, FOLLOWER, WINDOW, MASK = 32, 33, 34, 35, 36, 37
NOP = 4 << 22

# Numbers at which sums, products and signs change their ways.
EDGES = [0, 1, 2, 3, 4, 2 ** 31 - 1, 2 ** 31, 2 ** 31 + 1, 2 ** 32 - 4, 2 ** 32 - 2, 2 ** 32 - 1, 0x12345678]


def reset():
    return [0]


def put(which, value):
    return [1, which, value]


def get(which):
    return [2, which]


def run(steps, memory=()):
    return [3, steps, len(memory)] + list(memory)


def ask(*calls):
    """The answers of one line, which begins with reset, one list for each call behind it."""
    flat = reset()
    for call in calls:
        flat = flat + call
    told = taken_apart(answers(flat))
    assert len(told) == 1 + len(calls), told
    assert told[0] == [0], told
    return told[1:]


def taken_apart(numbers):
    told = []
    at = 0
    while at < len(numbers):
        count = numbers[at]
        told.append(numbers[at + 1:at + 1 + count])
        at += 1 + count
    assert at == len(numbers), numbers
    return told


def code(*words):
    """The bytes of words, the highest first."""
    told = []
    for word in words:
        told += list(word.to_bytes(4, "big"))
    return told


def call(distance):
    return 1 << 30 | (distance >> 2) & 0x3FFFFFFF


def high(d, value):
    return d << 25 | 4 << 22 | value


def branch(condition, distance, annul=0):
    return annul << 29 | condition << 25 | 2 << 22 | (distance >> 2) & 0x3FFFFF


def with_register(form, operation, d, a, b):
    return form << 30 | d << 25 | operation << 19 | a << 14 | b


def with_number(form, operation, d, a, number):
    return form << 30 | d << 25 | operation << 19 | a << 14 | 1 << 13 | number & 0x1FFF


def op(operation, d, a, b):
    return with_register(2, operation, d, a, b)


def opi(operation, d, a, number):
    return with_number(2, operation, d, a, number)


def move(operation, d, a, b):
    return with_register(3, operation, d, a, b)


def movei(operation, d, a, number):
    return with_number(3, operation, d, a, number)


def do(words, before=None, steps=1, wanted=(), memory=None):
    """Runs words from place 0 on, with some things set before; the run's answer and what is wanted behind it."""
    held = dict(before or {})
    calls = [put(which, held[which]) for which in held]
    calls.append(run(steps, code(*words) if memory is None else memory))
    calls += [get(which) for which in wanted]
    told = ask(*calls)
    assert told[:len(held)] == [[0]] * len(held), told
    return told[len(held)], [answer[1] for answer in told[len(held) + 1:]]


def everything(extra=()):
    """Calls that get all there is of the machine."""
    return [get(which) for which in range(38)] + list(extra)


def signed(value):
    return value - 2 ** 32 if value >= 2 ** 31 else value
