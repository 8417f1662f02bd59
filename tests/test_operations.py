"""Promise 3: the operations of 2."""

import unittest

from tests.helper import (CONDITIONS, EDGES, FOLLOWER, MASK, PLACE, TOP, WINDOW, Y, ask, code, do, everything, get, op,
                          opi, put, run, signed)

ROUND = 2 ** 32


def marks(result, overflow=False, carry=False):
    return 8 * (result >= 2 ** 31) + 4 * (result == 0) + 2 * overflow + carry


def fits(number):
    return -2 ** 31 <= number < 2 ** 31


def summed(a, b, c=0):
    result = (a + b + c) % ROUND
    return result, marks(result, not fits(signed(a) + signed(b) + c), a + b + c >= ROUND)


def subtracted(a, b, c=0):
    result = (a - b - c) % ROUND
    return result, marks(result, not fits(signed(a) - signed(b) - c), a < b + c)


def plainly(result):
    result %= ROUND
    return result, marks(result)


WITHOUT_Y = {
    0: lambda a, b, c: summed(a, b),
    1: lambda a, b, c: plainly(a & b),
    2: lambda a, b, c: plainly(a | b),
    3: lambda a, b, c: plainly(a ^ b),
    4: lambda a, b, c: subtracted(a, b),
    5: lambda a, b, c: plainly(a & (TOP - b)),
    6: lambda a, b, c: plainly(a | (TOP - b)),
    7: lambda a, b, c: plainly(a ^ (TOP - b)),
    8: summed,
    12: subtracted,
}


def done(word, a, b, y=0, before=0, steps=1):
    """One instruction on register 1 as a and register 2 as b: the run's answer, d (3), Y, conditions, this place."""
    return do([word], {1: a, 2: b, 3: 0x5555, Y: y, CONDITIONS: before}, steps, (3, Y, CONDITIONS, PLACE))


class Plain(unittest.TestCase):

    def test_results_and_conditions(self):
        for operation, expected in WITHOUT_Y.items():
            for a in EDGES:
                for b in EDGES:
                    for before in (0, 1, 15):
                        with self.subTest(operation=operation, a=a, b=b, before=before):
                            result, after = expected(a, b, before & 1)
                            told = done(op(operation, 3, 1, 2), a, b, 6, before)
                            self.assertEqual(told, ([1, 0, 0], [result, 6, before, 4]))
                            told = done(op(operation + 16, 3, 1, 2), a, b, 6, before)
                            self.assertEqual(told, ([1, 0, 0], [result, 6, after, 4]))

    def test_each_of_the_conditions_of_a_sum(self):
        for a, b, after in ((0, 0, 4), (1, 1, 0), (2 ** 31 - 1, 1, 10), (2 ** 31, 2 ** 31, 7), (TOP, 1, 5),
                            (TOP, 0, 8), (TOP, TOP, 9), (2 ** 31, TOP, 3)):
            self.assertEqual(done(op(16, 3, 1, 2), a, b)[1][2], after)

    def test_each_of_the_conditions_of_a_difference(self):
        for a, b, after in ((5, 5, 4), (2, 1, 0), (1, 2, 9), (2 ** 31, 1, 2), (2 ** 31 - 1, TOP, 11),
                            (0, 2 ** 31, 11), (TOP, 1, 8), (0, TOP, 1)):
            self.assertEqual(done(op(20, 3, 1, 2), a, b)[1][2], after)

    def test_a_carry_is_taken_in(self):
        self.assertEqual(done(op(24, 3, 1, 2), TOP, 0, 0, 1)[1][::2], [0, 5])
        self.assertEqual(done(op(24, 3, 1, 2), 2 ** 31 - 1, 0, 0, 1)[1][::2], [2 ** 31, 10])
        self.assertEqual(done(op(24, 3, 1, 2), TOP, TOP, 0, 1)[1][::2], [TOP, 9])
        self.assertEqual(done(op(28, 3, 1, 2), 0, 0, 0, 1)[1][::2], [TOP, 9])
        self.assertEqual(done(op(28, 3, 1, 2), 0, TOP, 0, 1)[1][::2], [0, 5])
        self.assertEqual(done(op(28, 3, 1, 2), 2 ** 31, 0, 0, 1)[1][::2], [2 ** 31 - 1, 2])

    def test_only_c_is_taken_in(self):
        self.assertEqual(done(op(8, 3, 1, 2), 5, 6, 0, 14)[1][0], 11)
        self.assertEqual(done(op(12, 3, 1, 2), 5, 6, 0, 14)[1][0], TOP)


class Operands(unittest.TestCase):

    def test_a_number_has_its_sign(self):
        for number in (0, 1, -1, 4095, -4096, 1365):
            self.assertEqual(do([opi(0, 3, 1, number)], {1: 10000}, 1, (3,)), ([1, 0, 0], [10000 + number]))
        self.assertEqual(do([opi(2, 3, 0, -1)], {}, 1, (3,))[1], [TOP])
        self.assertEqual(do([opi(10, 3, 1, -1)], {1: 2}, 1, (3, Y))[1], [TOP - 1, 1])
        self.assertEqual(do([opi(4, 3, 0, -4096)], {}, 1, (3,))[1], [4096])

    def test_a_register_is_told_by_bits_4_to_0_alone(self):
        for above in (0, 0x1FE0, 0x0020, 0x1000):
            self.assertEqual(do([op(0, 3, 1, 2) | above], {1: 5, 2: 6}, 1, (3,)), ([1, 0, 0], [11]))

    def test_every_register_as_a_b_and_d(self):
        held = {number: 3 << number for number in range(1, 8)}
        held.update({number: 1000 + number for number in range(8, 32)})
        for number in range(32):
            value = held.get(number, 0)
            self.assertEqual(do([opi(0, 1, number, 1)], held, 1, (1,))[1], [value + 1])
            self.assertEqual(do([op(4, 1, 0, number)], held, 1, (1,))[1], [-value % ROUND])
            told = do([opi(0, number, 0, 77)], held, 1, range(32))[1]
            self.assertEqual(told, [77 if n == number and n > 0 else held.get(n, 0) for n in range(32)])

    def test_what_is_done_is_told_by_the_operation_alone(self):
        # All registers are 0, so each of these sums is 0, whatever registers are named.
        for number in range(32):
            for operation, after in ((0, 15), (1, 15), (10, 15), (16, 4), (17, 4), (26, 4), (32, 4), (34, 4)):
                for word in (op(operation, number, 0, 0), op(operation, 0, number, 0), op(operation, 0, 0, number)):
                    self.assertEqual(do([word], {CONDITIONS: 15}, 1, (CONDITIONS,)), ([1, 0, 0], [after]))

    def test_the_number_does_not_tell_what_is_done(self):
        for bit in range(13):
            number = 1 << bit if bit < 12 else -4096
            self.assertEqual(do([opi(0, 3, 0, number)], {CONDITIONS: 15}, 1, (3, CONDITIONS)),
                             ([1, 0, 0], [number % ROUND, 15]))
            self.assertEqual(do([opi(16, 3, 0, number)], {CONDITIONS: 15}, 1, (3, CONDITIONS)),
                             ([1, 0, 0], [number % ROUND, marks(number % ROUND)]))
            tagged = ([1, 0, 0], [number % ROUND, marks(number % ROUND, number % 4 != 0)])
            self.assertEqual(do([opi(32, 3, 0, number)], {CONDITIONS: 15}, 1, (3, CONDITIONS)), tagged)

    def test_register_0_stays_0(self):
        told, values = do([opi(16, 0, 0, -5), op(0, 1, 0, 0)], {1: 9}, 2, (0, 1, CONDITIONS))
        self.assertEqual((told, values), ([2, 0, 0], [0, 0, 8]))

    def test_d_may_be_a_and_b(self):
        self.assertEqual(do([op(0, 1, 1, 1)], {1: 2 ** 31 + 3}, 1, (1,))[1], [6])


class Products(unittest.TestCase):

    def test_both_halves(self):
        for a in EDGES:
            for b in EDGES:
                for operation, product in ((10, a * b), (11, signed(a) * signed(b))):
                    with self.subTest(operation=operation, a=a, b=b):
                        low, upper = product % ROUND, product // ROUND % ROUND
                        told = done(op(operation, 3, 1, 2), a, b, 99, 15)
                        self.assertEqual(told, ([1, 0, 0], [low, upper, 15, 4]))
                        told = done(op(operation + 16, 3, 1, 2), a, b, 99, 15)
                        self.assertEqual(told, ([1, 0, 0], [low, upper, marks(low), 4]))

    def test_signs(self):
        self.assertEqual(done(op(10, 3, 1, 2), TOP, TOP)[1][:2], [1, TOP - 1])
        self.assertEqual(done(op(11, 3, 1, 2), TOP, TOP)[1][:2], [1, 0])
        self.assertEqual(done(op(27, 3, 1, 2), 2 ** 31, 2)[1][:3], [0, TOP, 4])

    def test_y_becomes_the_upper_half_where_d_is_0(self):
        self.assertEqual(do([op(10, 0, 1, 1)], {1: 2 ** 31, Y: 5}, 1, (0, Y))[1], [0, 2 ** 30])


class Quotients(unittest.TestCase):

    def without_signs(self, y, a, b):
        quotient = (y * ROUND + a) // b
        return min(quotient, TOP), quotient > TOP

    def with_signs(self, y, a, b):
        dividend, divisor = signed(y) * ROUND + a, signed(b)
        size = abs(dividend) // abs(divisor)
        quotient = size if (dividend >= 0) == (divisor >= 0) else -size
        return max(-2 ** 31, min(2 ** 31 - 1, quotient)) % ROUND, not fits(quotient)

    def test_quotients(self):
        for operation, expected in ((14, self.without_signs), (15, self.with_signs)):
            for y in (0, 1, 2, 2 ** 31 - 1, 2 ** 31, TOP - 1, TOP):
                for a in EDGES:
                    for b in EDGES[1:]:
                        with self.subTest(operation=operation, y=y, a=a, b=b):
                            result, overflow = expected(y, a, b)
                            self.assertEqual(done(op(operation, 3, 1, 2), a, b, y, 15), ([1, 0, 0], [result, y, 15, 4]))
                            told = done(op(operation + 16, 3, 1, 2), a, b, y, 15)
                            self.assertEqual(told, ([1, 0, 0], [result, y, marks(result, overflow), 4]))

    def test_towards_0(self):
        for y, a, b, result in ((0, 7, 2, 3), (TOP, ROUND - 7, 2, -3), (0, 7, ROUND - 2, -3),
                                (TOP, ROUND - 7, ROUND - 2, 3), (TOP, ROUND - 1, 2, 0)):
            self.assertEqual(done(op(31, 3, 1, 2), a, b, y)[1][0], result % ROUND)

    def test_one_that_does_not_fit(self):
        self.assertEqual(done(op(30, 3, 1, 2), 0, 1, 1)[1][:3], [TOP, 1, 10])
        self.assertEqual(done(op(30, 3, 1, 2), TOP, 1, 0)[1][:3], [TOP, 0, 8])
        self.assertEqual(done(op(31, 3, 1, 2), 2 ** 31, 1, 0)[1][:3], [2 ** 31 - 1, 0, 2])
        self.assertEqual(done(op(31, 3, 1, 2), 2 ** 31 - 1, 1, 0)[1][:3], [2 ** 31 - 1, 0, 0])
        self.assertEqual(done(op(31, 3, 1, 2), 2 ** 31 - 1, 1, TOP)[1][:3], [2 ** 31, TOP, 10])
        self.assertEqual(done(op(31, 3, 1, 2), 2 ** 31, 1, TOP)[1][:3], [2 ** 31, TOP, 8])
        self.assertEqual(done(op(31, 3, 1, 2), 2 ** 31, TOP, 0)[1][:3], [2 ** 31, 0, 8])
        self.assertEqual(done(op(31, 3, 1, 2), 0, TOP, 2 ** 31)[1][:3], [2 ** 31 - 1, 2 ** 31, 2])

    def test_by_0(self):
        for operation in (14, 15, 30, 31):
            for y, a in ((0, 0), (1, 5), (TOP, TOP)):
                self.assertEqual(done(op(operation, 3, 1, 2), a, 0, y, 15), ([0, 42, 0], [0x5555, y, 15, 0]))
            self.assertEqual(done(opi(operation, 3, 1, 0), 4, 1)[0], [0, 42, 0])


class Tagged(unittest.TestCase):

    def test_sums_and_differences(self):
        for a in EDGES + [5, 6, 8]:
            for b in EDGES + [8]:
                for operation, expected in ((32, summed), (33, subtracted)):
                    with self.subTest(operation=operation, a=a, b=b):
                        result, after = expected(a, b)
                        if a % 4 or b % 4:
                            after |= 2
                        told = done(op(operation, 3, 1, 2), a, b, 6, 15)
                        self.assertEqual(told, ([1, 0, 0], [result, 6, after, 4]))
                        told = done(op(operation + 2, 3, 1, 2), a, b, 6, 15)
                        if after & 2:
                            self.assertEqual(told, ([0, 10, 0], [0x5555, 6, 15, 0]))
                        else:
                            self.assertEqual(told, ([1, 0, 0], [result, 6, after, 4]))

    def test_each_lowest_bit_counts(self):
        for a, b in ((1, 0), (2, 0), (0, 1), (0, 2), (3, 3), (2, 2)):
            for operation in (32, 33):
                self.assertEqual(done(op(operation, 3, 1, 2), 16 + a, 8 + b)[1][2], 2)
                self.assertEqual(done(op(operation + 2, 3, 1, 2), 16 + a, 8 + b)[0], [0, 10, 0])


class MultiplyStep(unittest.TestCase):

    def test_steps(self):
        for before in range(16):
            for y in (0, 1, 2, 3, 2 ** 31, TOP):
                for a in EDGES:
                    for b in (0, 1, 2 ** 31 - 1, 2 ** 31, TOP):
                        with self.subTest(before=before, y=y, a=a, b=b):
                            n, v = before >> 3, before >> 1 & 1
                            u = a // 2 + 2 ** 31 * ((1 - n) if v else n)
                            result, after = summed(u, b if y % 2 else 0)
                            told = done(op(36, 3, 1, 2), a, b, y, before)
                            self.assertEqual(told, ([1, 0, 0], [result, y // 2 + 2 ** 31 * (a % 2), after, 4]))

    def test_a_whole_product(self):
        # Thirty-two steps and one of shifting alone make the product of Y and b.
        for factor, other in ((3, 5), (123456, 654321), (2 ** 31 - 1, 2 ** 31 - 1), (TOP, 2 ** 31 - 1)):
            program = [opi(17, 3, 0, 0)] + [op(36, 3, 3, 2)] * 32 + [op(36, 3, 3, 0)]
            told, values = do(program, {Y: other, 2: factor}, 34, (3, Y))
            product = signed(factor) * other
            self.assertEqual(values, [product // ROUND % ROUND, product % ROUND])


class Shifts(unittest.TestCase):

    def test_by_0_to_31(self):
        for a in EDGES:
            for count in range(32):
                for above in (0, 32, TOP - 31):
                    told = done(op(37, 3, 1, 2), a, above + count, 6, 15)
                    self.assertEqual(told, ([1, 0, 0], [a * 2 ** count % ROUND, 6, 15, 4]))
                    told = done(op(38, 3, 1, 2), a, above + count, 6, 0)
                    self.assertEqual(told, ([1, 0, 0], [a // 2 ** count, 6, 0, 4]))
                    told = done(op(39, 3, 1, 2), a, above + count, 6, 0)
                    self.assertEqual(told, ([1, 0, 0], [signed(a) // 2 ** count % ROUND, 6, 0, 4]))

    def test_by_a_number(self):
        self.assertEqual(done(opi(37, 3, 1, 31), 3, 0)[1][0], 2 ** 31)
        self.assertEqual(done(opi(38, 3, 1, 31), TOP, 0)[1][0], 1)
        self.assertEqual(done(opi(39, 3, 1, 31), 2 ** 31, 0)[1][0], TOP)
        self.assertEqual(done(opi(38, 3, 1, 32), TOP, 0)[1][0], TOP)
        self.assertEqual(done(opi(38, 3, 1, -1), TOP, 0)[1][0], 1)


class OfY(unittest.TestCase):

    def test_it_is_read(self):
        self.assertEqual(done(op(40, 3, 0, 0), 1, 2, TOP - 5, 15), ([1, 0, 0], [TOP - 5, TOP - 5, 15, 4]))
        self.assertEqual(done(op(40, 0, 0, 0), 1, 2, 7), ([1, 0, 0], [0x5555, 7, 0, 4]))
        self.assertEqual(done(opi(40, 3, 0, -1), 1, 2, 7)[1][0], 7)

    def test_reading_another_is_a_trap(self):
        for a in range(1, 32):
            self.assertEqual(done(op(40, 3, a, 0), 1, 2, 7), ([0, 2, 0], [0x5555, 7, 0, 0]))

    def test_it_becomes_a_exclusive_or_b(self):
        for a in EDGES:
            for b in EDGES:
                self.assertEqual(done(op(48, 0, 1, 2), a, b, 7, 15), ([1, 0, 0], [0x5555, a ^ b, 15, 4]))
        self.assertEqual(done(opi(48, 0, 1, -1), 5, 0)[1][1], TOP - 5)

    def test_writing_another_is_a_trap(self):
        for d in range(1, 32):
            self.assertEqual(done(op(48, d, 1, 2), 1, 3, 7), ([0, 2, 0], [0x5555, 7, 0, 0]))


class Nothing(unittest.TestCase):

    def test_3bh_changes_nothing_but_the_places(self):
        before = [put(number, 70 + number) for number in range(33)] + [put(CONDITIONS, 15), put(FOLLOWER, 80)]
        told = ask(*before, run(1, code(opi(59, 5, 6, 7))), *everything())[len(before):]
        kept = [answer[1] for answer in ask(*before, *everything())[len(before):]]
        self.assertEqual(told[0], [1, 0, 0])
        self.assertEqual([answer[1] for answer in told[1:]], kept[:34] + [80, 84] + kept[36:])


class Windows(unittest.TestCase):

    def enter(self, operation, window, mask, d=3):
        return do([op(operation, d, 8, 24)], {MASK: mask, WINDOW: window, 8: 30, 24: 12, d: 5, CONDITIONS: 15}, 1,
                  (WINDOW, d, PLACE, CONDITIONS, MASK))

    def test_the_window_and_d(self):
        for window in range(8):
            told, values = self.enter(60, window, 0)
            self.assertEqual((told, values), ([1, 0, 0], [(window - 1) % 8, 42, 4, 15, 0]))
            told, values = self.enter(61, window, 0)
            self.assertEqual((told, values), ([1, 0, 0], [(window + 1) % 8, 42, 4, 15, 0]))

    def test_the_mask_forbids(self):
        for operation, trap, step in ((60, 5, -1), (61, 6, 1)):
            for window in range(8):
                entered = (window + step) % 8
                for forbidden in range(8):
                    with self.subTest(operation=operation, window=window, forbidden=forbidden):
                        told, values = self.enter(operation, window, 1 << forbidden)
                        if forbidden == entered:
                            self.assertEqual((told, values), ([0, trap, 0], [window, 5, 0, 15, 1 << forbidden]))
                        else:
                            self.assertEqual((told, values), ([1, 0, 0], [entered, 42, 4, 15, 1 << forbidden]))

    def test_all_or_none_forbidden(self):
        self.assertEqual(self.enter(60, 4, 255)[0], [0, 5, 0])
        self.assertEqual(self.enter(61, 4, 255)[0], [0, 6, 0])
        self.assertEqual(self.enter(60, 4, 255 - 8)[0], [1, 0, 0])
        self.assertEqual(self.enter(61, 4, 255 - 32)[0], [1, 0, 0])

    def test_outs_become_ins_and_back(self):
        held = {8 + n: 100 + n for n in range(8)}
        told = ask(put(MASK, 0), *[put(which, held[which]) for which in held],
                   run(1, code(op(60, 0, 0, 0))), *[get(24 + n) for n in range(8)],
                   *[put(24 + n, 200 + n) for n in range(8)], put(PLACE, 0), run(1, code(op(61, 0, 0, 0))),
                   *[get(8 + n) for n in range(8)])
        self.assertEqual(told[10:18], [[0, 100 + n] for n in range(8)])
        self.assertEqual(told[-8:], [[0, 200 + n] for n in range(8)])

    def test_d_in_each_part_of_the_new_window(self):
        for d in range(1, 32):
            told, values = do([opi(60, d, 30, -96)], {WINDOW: 5, 30: 1000}, 1, (d, WINDOW))
            self.assertEqual((told, values), ([1, 0, 0], [904, 4]))

    def test_conditions_are_not_set(self):
        self.assertEqual(do([op(60, 1, 2, 2)], {2: 2 ** 31, MASK: 0}, 1, (1, CONDITIONS))[1], [0, 0])


if __name__ == "__main__":
    unittest.main()
