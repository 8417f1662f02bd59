"""The sixteen conditions of branches and traps, asked of N 8, Z 4, V 2, C 1."""


def never(marks):
    return False


def zero(marks):
    return (marks & 4) != 0


def zero_or_less(marks):
    return zero(marks) or less(marks)


def less(marks):
    return negative(marks) != overflow(marks)


def carry_or_zero(marks):
    return (marks & 5) != 0


def carry(marks):
    return (marks & 1) != 0


def negative(marks):
    return (marks & 8) != 0


def overflow(marks):
    return (marks & 2) != 0


PLAIN = (never, zero, zero_or_less, less, carry_or_zero, carry, negative, overflow)


def holds(condition, marks):
    """Whether condition 0 to 15 holds; from 8 on each is the contrary of the one 8 below."""
    return PLAIN[condition & 7](marks) != (condition > 7)
