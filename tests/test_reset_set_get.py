"""Promises 1 and 2: reset, set and get."""

import unittest

from tests.helper import (CONDITIONS, FOLLOWER, MASK, NOP, PLACE, TOP, WINDOW, Y, ask, code, everything, get, op, opi,
                          put, reset, run)

FRESH = [[0, 0]] * 35 + [[0, 4], [0, 0], [0, 2]]


class Reset(unittest.TestCase):

    def test_a_new_machine(self):
        self.assertEqual(ask(*everything()), FRESH)

    def test_it_may_come_again(self):
        changes = [put(which, TOP) for which in range(38)]
        told = ask(*changes, run(1, code(NOP)), reset(), *everything())
        self.assertEqual(told[len(changes) + 1:], [[0]] + FRESH)

    def test_all_windows_are_emptied(self):
        changes = []
        looks = []
        for window in range(8):
            changes.append(put(WINDOW, window))
            looks.append(put(WINDOW, window))
            for number in range(32):
                changes.append(put(number, 1000 + window))
                looks.append(get(number))
        told = ask(*changes, reset(), *looks)[len(changes) + 1:]
        self.assertEqual(told, ([[0]] + [[0, 0]] * 32) * 8)

    def test_window_1_may_not_be_entered_and_the_others_may(self):
        save = opi(60, 0, 0, 0)
        told = ask(*[call for window in range(8)
                     for call in (reset(), put(WINDOW, window), run(1, code(save)))])
        traps = [told[3 * window + 2][1] for window in range(8)]
        self.assertEqual(traps, [0, 0, 5, 0, 0, 0, 0, 0])


class SetAndGet(unittest.TestCase):

    def test_every_register_of_a_window(self):
        puts = [put(number, 5000 + number) for number in range(32)]
        gets = [get(number) for number in range(32)]
        told = ask(*puts, *gets)
        self.assertEqual(told, [[0]] * 32 + [[0, 0]] + [[0, 5000 + number] for number in range(1, 32)])

    def test_32_bits_of_registers_and_y(self):
        for which in list(range(1, 32)) + [Y]:
            for value in (0, 1, 2 ** 31 - 1, 2 ** 31, TOP):
                with self.subTest(which=which, value=value):
                    self.assertEqual(ask(put(which, value), get(which)), [[0], [0, value]])

    def test_register_0_stays_0(self):
        self.assertEqual(ask(put(0, TOP), get(0)), [[0], [0, 0]])

    def test_only_the_one_that_is_set_is_another(self):
        fresh = [answer[1] for answer in FRESH]
        for which in range(38):
            with self.subTest(which=which):
                told = [answer[1] for answer in ask(put(which, 12), *everything())[1:]]
                expected = list(fresh)
                expected[which] = {0: 0, WINDOW: 4}.get(which, 12)
                self.assertEqual(told, expected)

    def test_conditions_are_four_bits(self):
        for value in range(32):
            self.assertEqual(ask(put(CONDITIONS, value), get(CONDITIONS))[1], [0, value % 16])
        self.assertEqual(ask(put(CONDITIONS, TOP), get(CONDITIONS))[1], [0, 15])
        self.assertEqual(ask(put(CONDITIONS, TOP - 15), get(CONDITIONS))[1], [0, 0])

    def test_each_bit_of_the_conditions_is_the_one_that_is_named(self):
        for bits, condition in ((8, 6), (4, 1), (2, 7), (1, 5)):
            for other in (1, 5, 6, 7):
                trap = 2 << 30 | other << 25 | 58 << 19 | 1 << 13
                told = ask(put(CONDITIONS, bits), run(1, code(trap)))[1]
                self.assertEqual(told, [0, 128, 0] if other == condition else [1, 0, 0])

    def test_the_two_lowest_bits_of_a_place_become_0(self):
        for which in (PLACE, FOLLOWER):
            for value in (0, 1, 2, 3, 4, 7, 65535, 65536, TOP - 4, TOP - 3, TOP):
                with self.subTest(which=which, value=value):
                    self.assertEqual(ask(put(which, value), get(which)), [[0], [0, value - value % 4]])

    def test_the_window_has_three_bits(self):
        for value in list(range(20)) + [TOP, TOP - 7, 2 ** 31 + 5]:
            self.assertEqual(ask(put(WINDOW, value), get(WINDOW)), [[0], [0, value % 8]])

    def test_the_mask_has_eight_bits(self):
        for value in (0, 1, 128, 255, 256, 257, TOP, TOP - 255):
            self.assertEqual(ask(put(MASK, value), get(MASK)), [[0], [0, value % 256]])

    def test_set_may_enter_a_window_that_the_mask_forbids(self):
        self.assertEqual(ask(put(MASK, 255), put(WINDOW, 1), get(WINDOW), put(9, 4), get(9)),
                         [[0], [0], [0, 1], [0], [0, 4]])

    def test_which_is_refused_below_0_and_above_37(self):
        for which in (-2 ** 31, -33, -2, -1, 38, 39, 63, 64, 2 ** 31 - 1):
            with self.subTest(which=which):
                self.assertEqual(ask(get(which), put(which, 1), *everything()), [[-2], [-2]] + FRESH)

    def test_the_outermost_that_are_not_refused(self):
        self.assertEqual(ask(get(0), get(31), get(32), get(37)), [[0, 0], [0, 0], [0, 0], [0, 2]])
        self.assertEqual(ask(put(0, 1), put(31, 1), put(32, 1), put(37, 1)), [[0]] * 4)


class Windows(unittest.TestCase):

    def test_outs_are_the_ins_of_the_window_below(self):
        for window in range(8):
            below = (window - 1) % 8
            puts = [put(WINDOW, window)] + [put(8 + n, 100 + n) for n in range(8)]
            gets = [put(WINDOW, below)] + [get(24 + n) for n in range(8)]
            told = ask(*puts, *gets)
            self.assertEqual(told[len(puts) + 1:], [[0, 100 + n] for n in range(8)])

    def test_ins_are_the_outs_of_the_window_above(self):
        for window in range(8):
            above = (window + 1) % 8
            puts = [put(WINDOW, window)] + [put(24 + n, 100 + n) for n in range(8)]
            gets = [put(WINDOW, above)] + [get(8 + n) for n in range(8)]
            told = ask(*puts, *gets)
            self.assertEqual(told[len(puts) + 1:], [[0, 100 + n] for n in range(8)])

    def test_every_register_against_every_window(self):
        for number in range(32):
            puts = [put(WINDOW, 3), put(number, 9)]
            looks = [call for window in range(8) for call in [put(WINDOW, window)] + [get(n) for n in range(32)]]
            told = ask(*puts, *looks)[2:]
            seen = [(window, n) for window in range(8) for n in range(32) if told[33 * window + 1 + n] == [0, 9]]
            self.assertEqual(seen, self.reached_from_window_3(number))

    def reached_from_window_3(self, number):
        if number == 0:
            return []
        if number < 8:
            return [(window, number) for window in range(8)]
        if number < 16:
            return [(2, number + 16), (3, number)]
        if number < 24:
            return [(3, number)]
        return [(3, number), (4, number - 16)]

    def test_instructions_see_the_window_that_was_set(self):
        told = ask(put(8, 5), put(16, 6), put(WINDOW, 7), run(1, code(op(0, 17, 24, 16))), get(17))
        self.assertEqual(told[3:], [[1, 0, 0], [0, 5]])


if __name__ == "__main__":
    unittest.main()
