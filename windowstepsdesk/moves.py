"""The instructions whose bits 31 and 30 are 3: between registers and memory.

A move takes the machine, the memory, the number of register d and a place that is known to be good.
"""

from windowstepsdesk.memory import BYTES
from windowstepsdesk.words import FULL, destination, first_source, operation_code, with_sign


def load_word(machine, memory, d, place):
    machine.write(d, memory.load(place, 4))


def load_byte(machine, memory, d, place):
    machine.write(d, memory.load(place, 1))


def load_half(machine, memory, d, place):
    machine.write(d, memory.load(place, 2))


def load_two_words(machine, memory, d, place):
    machine.write(d, memory.load(place, 4))
    machine.write(d + 1, memory.load(place + 4, 4))


def load_signed_byte(machine, memory, d, place):
    machine.write(d, with_sign(memory.load(place, 1), 8) & FULL)


def load_signed_half(machine, memory, d, place):
    machine.write(d, with_sign(memory.load(place, 2), 16) & FULL)


def store_word(machine, memory, d, place):
    memory.store(place, 4, machine.read(d))


def store_byte(machine, memory, d, place):
    memory.store(place, 1, machine.read(d))


def store_half(machine, memory, d, place):
    memory.store(place, 2, machine.read(d))


def store_two_words(machine, memory, d, place):
    memory.store(place, 4, machine.read(d))
    memory.store(place + 4, 4, machine.read(d + 1))


def load_byte_and_fill(machine, memory, d, place):
    machine.write(d, memory.load(place, 1))
    memory.store(place, 1, 255)


def swap_word(machine, memory, d, place):
    value = machine.read(d)
    machine.write(d, memory.load(place, 4))
    memory.store(place, 4, value)


SIZES = {0: 4, 1: 1, 2: 2, 3: 8, 4: 4, 5: 1, 6: 2, 7: 8, 9: 1, 10: 2, 13: 1, 15: 4}

MOVES = {
    0: load_word, 1: load_byte, 2: load_half, 3: load_two_words,
    4: store_word, 5: store_byte, 6: store_half, 7: store_two_words,
    9: load_signed_byte, 10: load_signed_half, 13: load_byte_and_fill, 15: swap_word,
}


def move_trap(operation, d, place):
    """The trap of a move, 0 for none; the one that is due first is told."""
    if operation not in SIZES:
        return 2
    size = SIZES[operation]
    if size == 8 and (d & 1) != 0:
        return 2
    if (place & (size - 1)) != 0:
        return 7
    if place >= BYTES:
        return 9
    return 0


def do_move(machine, memory, word):
    operation = operation_code(word)
    d = destination(word)
    place = (machine.read(first_source(word)) + machine.second(word)) & FULL
    trap = move_trap(operation, d, place)
    if trap != 0:
        return trap
    MOVES[operation](machine, memory, d, place)
    machine.go_on()
    return 0
