"""The instructions whose bits 31 and 30 are 2.

Each operation takes the machine, the instruction and the operands a and b, and answers the trap's number,
0 for none. Whatever may bring a trap is looked at before anything is changed.
"""

from windowstepsdesk.conditions import holds
from windowstepsdesk.sums import difference_marks, result_marks, sum_marks, tag_marks
from windowstepsdesk.words import FULL, condition_code, destination, first_source, operation_code, signed


def give(machine, word, result):
    """Register d becomes the result, and on."""
    machine.write(destination(word), result & FULL)
    machine.go_on()
    return 0


def sets_conditions(word):
    """Whether an operation below 32 is one of 16 to 31."""
    return (word & 0x800000) != 0


def settle_sum(machine, word, a, b, carry):
    total = a + b + carry
    if sets_conditions(word):
        machine.conditions = sum_marks(a, b, total)
    return give(machine, word, total)


def settle_difference(machine, word, a, b, borrow):
    total = a - b - borrow
    if sets_conditions(word):
        machine.conditions = difference_marks(a, b, total)
    return give(machine, word, total)


def settle_result(machine, word, result, overflow):
    """For a result of 32 bits that has no carry; overflow is 2 where it didn't fit, else 0."""
    if sets_conditions(word):
        machine.conditions = result_marks(result) | overflow
    return give(machine, word, result)


def add(machine, word, a, b):
    return settle_sum(machine, word, a, b, 0)


def add_with_carry(machine, word, a, b):
    return settle_sum(machine, word, a, b, machine.conditions & 1)


def subtract(machine, word, a, b):
    return settle_difference(machine, word, a, b, 0)


def subtract_with_borrow(machine, word, a, b):
    return settle_difference(machine, word, a, b, machine.conditions & 1)


def bits_and(machine, word, a, b):
    return settle_result(machine, word, a & b, 0)


def bits_or(machine, word, a, b):
    return settle_result(machine, word, a | b, 0)


def bits_exclusive_or(machine, word, a, b):
    return settle_result(machine, word, a ^ b, 0)


def bits_and_turned(machine, word, a, b):
    return settle_result(machine, word, a & (b ^ FULL), 0)


def bits_or_turned(machine, word, a, b):
    return settle_result(machine, word, a | (b ^ FULL), 0)


def bits_exclusive_or_turned(machine, word, a, b):
    return settle_result(machine, word, a ^ b ^ FULL, 0)


def settle_product(machine, word, product):
    machine.y = (product >> 32) & FULL
    return settle_result(machine, word, product & FULL, 0)


def multiply(machine, word, a, b):
    return settle_product(machine, word, a * b)


def multiply_signed(machine, word, a, b):
    return settle_product(machine, word, signed(a) * signed(b))


def settle_quotient(machine, word, quotient, lowest, highest):
    """A quotient that doesn't fit becomes the end of the numbers that it went past."""
    result = max(lowest, min(highest, quotient))
    overflow = 2 if result != quotient else 0
    return settle_result(machine, word, result & FULL, overflow)


def divide(machine, word, a, b):
    if b == 0:
        return 42
    quotient = ((machine.y << 32) | a) // b
    return settle_quotient(machine, word, quotient, 0, FULL)


def divide_signed(machine, word, a, b):
    if b == 0:
        return 42
    dividend = (signed(machine.y) << 32) + a
    divisor = signed(b)
    quotient = abs(dividend) // abs(divisor)
    if (dividend < 0) != (divisor < 0):
        quotient = -quotient
    return settle_quotient(machine, word, quotient, -0x80000000, 0x7FFFFFFF)


def settle_tagged(machine, word, total, marks):
    """Operations 22H and 23H (bit 20 is 1) trap where 20H and 21H only set V."""
    if (marks & 2) != 0 and (word & 0x100000) != 0:
        return 10
    machine.conditions = marks
    return give(machine, word, total)


def add_tagged(machine, word, a, b):
    return settle_tagged(machine, word, a + b, sum_marks(a, b, a + b) | tag_marks(a, b))


def subtract_tagged(machine, word, a, b):
    return settle_tagged(machine, word, a - b, difference_marks(a, b, a - b) | tag_marks(a, b))


def multiply_step(machine, word, a, b):
    top = 1 if holds(3, machine.conditions) else 0
    u = (top << 31) | (a >> 1)
    added = b if (machine.y & 1) != 0 else 0
    machine.conditions = sum_marks(u, added, u + added)
    machine.y = ((a & 1) << 31) | (machine.y >> 1)
    return give(machine, word, u + added)


def shift_left(machine, word, a, b):
    return give(machine, word, a << (b & 31))


def shift_right(machine, word, a, b):
    return give(machine, word, a >> (b & 31))


def shift_right_signed(machine, word, a, b):
    return give(machine, word, signed(a) >> (b & 31))


def read_y(machine, word, a, b):
    if first_source(word) != 0:
        return 2
    return give(machine, word, machine.y)


def write_y(machine, word, a, b):
    if destination(word) != 0:
        return 2
    machine.y = a ^ b
    machine.go_on()
    return 0


def jump_and_link(machine, word, a, b):
    target = (a + b) & FULL
    if (target & 3) != 0:
        return 7
    machine.write(destination(word), machine.place)
    machine.jump(target)
    return 0


def trap_where_it_holds(machine, word, a, b):
    if holds(condition_code(word), machine.conditions):
        return 128 + ((a + b) & 127)
    machine.go_on()
    return 0


def flush(machine, word, a, b):
    machine.go_on()
    return 0


def enter_window(machine, word, total, window, trap):
    """Register d of the window that is entered becomes the sum that was made in the one that is left."""
    if ((machine.mask >> window) & 1) == 1:
        return trap
    machine.window = window
    return give(machine, word, total)


def save(machine, word, a, b):
    return enter_window(machine, word, a + b, (machine.window - 1) & 7, 5)


def restore(machine, word, a, b):
    return enter_window(machine, word, a + b, (machine.window + 1) & 7, 6)


OPERATIONS = {
    0: add, 1: bits_and, 2: bits_or, 3: bits_exclusive_or,
    4: subtract, 5: bits_and_turned, 6: bits_or_turned, 7: bits_exclusive_or_turned,
    8: add_with_carry, 10: multiply, 11: multiply_signed,
    12: subtract_with_borrow, 14: divide, 15: divide_signed,
    16: add, 17: bits_and, 18: bits_or, 19: bits_exclusive_or,
    20: subtract, 21: bits_and_turned, 22: bits_or_turned, 23: bits_exclusive_or_turned,
    24: add_with_carry, 26: multiply, 27: multiply_signed,
    28: subtract_with_borrow, 30: divide, 31: divide_signed,
    0x20: add_tagged, 0x21: subtract_tagged, 0x22: add_tagged, 0x23: subtract_tagged,
    0x24: multiply_step, 0x25: shift_left, 0x26: shift_right, 0x27: shift_right_signed,
    0x28: read_y, 0x30: write_y,
    0x38: jump_and_link, 0x3A: trap_where_it_holds, 0x3B: flush, 0x3C: save, 0x3D: restore,
}


def do_operation(machine, word):
    operation = OPERATIONS.get(operation_code(word))
    if operation is None:
        return 2
    return operation(machine, word, machine.read(first_source(word)), machine.second(word))
