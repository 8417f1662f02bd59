"""Numbers of 32 bits, and the parts of an instruction that several sorts of instructions share."""

FULL = 0xFFFFFFFF


def with_sign(value, bits):
    """The number that the lowest bits of value stand for when the highest of them is a sign."""
    half = 1 << (bits - 1)
    return ((value & (2 * half - 1)) ^ half) - half


def signed(value):
    """The number that 32 bits stand for when the highest of them is a sign."""
    return with_sign(value, 32)


def destination(word):
    """The number of register d, bits 29 to 25."""
    return (word >> 25) & 31


def condition_code(word):
    """The condition that a branch or a trap asks for, bits 28 to 25."""
    return (word >> 25) & 15


def first_source(word):
    """The number of the register that a is, bits 18 to 14."""
    return (word >> 14) & 31


def operation_code(word):
    """The operation of an instruction of 2 or 3, bits 24 to 19."""
    return (word >> 19) & 63
