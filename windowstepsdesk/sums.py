"""What the conditions become: N 8, Z 4, V 2, C 1."""

from windowstepsdesk.words import FULL


def result_marks(result):
    """N and Z of a result of 32 bits."""
    if result == 0:
        return 4
    return (result >> 28) & 8


def sum_marks(a, b, total):
    """The conditions of a sum; total is the sum before it goes round.

    A sum doesn't fit with signs just where a and b have one sign and the result has the other.
    """
    result = total & FULL
    overflow = ((a ^ result) & (b ^ result)) >> 31
    return result_marks(result) | (overflow << 1) | (total >> 32)


def difference_marks(a, b, total):
    """The conditions of a difference; total is the difference before it goes round, below 0 where it borrows.

    A difference doesn't fit with signs just where the signs of a and b differ and the result hasn't that of a.
    """
    result = total & FULL
    overflow = ((a ^ b) & (a ^ result)) >> 31
    borrow = 1 if total < 0 else 0
    return result_marks(result) | (overflow << 1) | borrow


def tag_marks(a, b):
    """V where one of the two lowest bits of a or b isn't 0."""
    return 2 if ((a | b) & 3) != 0 else 0
