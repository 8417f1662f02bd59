"""Promise 3: the call, the high bits of a register, branches, jumps and traps that ask a condition."""

import unittest

from tests.helper import (CONDITIONS, FOLLOWER, MASK, NOP, PLACE, TOP, ask, branch, call, code, do, get, high, op, opi,
                          put, run)


def should_hold(condition, marks):
    n, z, v, c = marks & 8 != 0, marks & 4 != 0, marks & 2 != 0, marks & 1 != 0
    plain = [False, z, z or n != v, n != v, c or z, c, n, v][condition % 8]
    return plain if condition < 8 else not plain


class Conditions(unittest.TestCase):

    def test_branches_of_every_condition(self):
        for condition in range(16):
            for marks in range(16):
                for annul in (0, 1):
                    with self.subTest(condition=condition, marks=marks, annul=annul):
                        told, values = do([branch(condition, 96, annul)], {CONDITIONS: marks, FOLLOWER: 40}, 1,
                                          (PLACE, FOLLOWER, CONDITIONS))
                        if should_hold(condition, marks):
                            places = [96, 100] if condition == 8 and annul else [40, 96]
                        else:
                            places = [44, 48] if annul else [40, 44]
                        self.assertEqual(told, [1, 0, 0])
                        self.assertEqual(values, places + [marks])

    def test_traps_of_every_condition(self):
        for condition in range(16):
            for marks in range(16):
                with self.subTest(condition=condition, marks=marks):
                    told, values = do([opi(58, condition, 0, 3)], {CONDITIONS: marks}, 1, (PLACE,))
                    if should_hold(condition, marks):
                        self.assertEqual((told, values), ([0, 131, 0], [0]))
                    else:
                        self.assertEqual((told, values), ([1, 0, 0], [4]))


class Branches(unittest.TestCase):

    def places(self, word, place=0, follower=4, marks=0):
        memory = [0] * place + code(word)
        told, values = do([], {PLACE: place, FOLLOWER: follower, CONDITIONS: marks}, 1, (PLACE, FOLLOWER), memory)
        self.assertEqual(told, [1, 0, 0])
        return values

    def test_the_distance_is_from_this_place_with_its_sign(self):
        self.assertEqual(self.places(branch(8, 40), 400, 404), [404, 440])
        self.assertEqual(self.places(branch(8, -40), 400, 404), [404, 360])
        self.assertEqual(self.places(branch(8, 0), 400, 404), [404, 400])
        self.assertEqual(self.places(branch(8, 2 ** 23 - 4), 400, 404), [404, 400 + 2 ** 23 - 4])
        self.assertEqual(self.places(branch(8, -2 ** 23), 400, 404), [404, 2 ** 32 + 400 - 2 ** 23])

    def test_places_go_round(self):
        self.assertEqual(self.places(branch(8, -8)), [4, TOP - 7])
        self.assertEqual(self.places(branch(8, -4, 1)), [TOP - 3, 0])
        self.assertEqual(self.places(branch(8, -8, 1)), [TOP - 7, TOP - 3])
        self.assertEqual(self.places(branch(0, 8, 1), 0, TOP - 3), [0, 4])
        self.assertEqual(self.places(branch(0, 8, 1), 0, TOP - 7), [TOP - 3, 0])
        self.assertEqual(self.places(branch(0, 8, 1), 0, TOP - 11), [TOP - 7, TOP - 3])
        self.assertEqual(self.places(branch(0, 8), 0, TOP - 3), [TOP - 3, 0])

    def test_what_stands_behind_a_taken_branch_is_done(self):
        for annul in (0, 1):
            told, values = do([branch(1, 12, annul), opi(0, 1, 1, 1), opi(0, 1, 1, 2), opi(0, 1, 1, 4)],
                              {CONDITIONS: 4}, 3, (1, PLACE))
            self.assertEqual((told, values), ([3, 0, 0], [5, 16]))

    def test_what_stands_behind_a_branch_that_is_not_taken(self):
        words = [opi(0, 1, 1, 1), opi(0, 1, 1, 2), opi(0, 1, 1, 4)]
        self.assertEqual(do([branch(1, 12)] + words, {}, 3, (1, PLACE)), ([3, 0, 0], [3, 12]))
        self.assertEqual(do([branch(1, 12, 1)] + words, {}, 3, (1, PLACE)), ([3, 0, 0], [6, 16]))

    def test_always_and_annulled(self):
        words = [branch(8, 12, 1), opi(0, 1, 1, 1), opi(0, 1, 1, 2), opi(0, 1, 1, 4)]
        self.assertEqual(do(words, {}, 2, (1, PLACE)), ([2, 0, 0], [4, 16]))

    def test_a_passed_instruction_counts_for_nothing(self):
        self.assertEqual(do([branch(0, 12, 1), 0, NOP], {}, 2, (PLACE,)), ([2, 0, 0], [12]))
        self.assertEqual(do([branch(8, 8, 1), 0, NOP], {}, 2, (PLACE,)), ([2, 0, 0], [12]))

    def test_a_branch_behind_a_branch(self):
        words = [branch(8, 16), branch(8, 20), NOP, NOP, opi(0, 1, 1, 1), NOP, opi(0, 1, 1, 2), opi(0, 1, 1, 4)]
        self.assertEqual(do(words, {}, 4, (1, PLACE, FOLLOWER)), ([4, 0, 0], [3, 28, 32]))


class HighBits(unittest.TestCase):

    def test_1024_times_what_is_told(self):
        for value in (0, 1, 2 ** 21, 2 ** 22 - 1, 0x12345):
            told, values = do([high(7, value)], {7: TOP, CONDITIONS: 15}, 1, (7, CONDITIONS, PLACE))
            self.assertEqual((told, values), ([1, 0, 0], [1024 * value, 15, 4]))

    def test_every_register(self):
        for d in range(32):
            told, values = do([high(d, 3)], {}, 1, range(32))
            self.assertEqual(values, [3072 if number == d and d > 0 else 0 for number in range(32)])


class Calls(unittest.TestCase):

    def test_register_15_and_the_places(self):
        for place, distance in ((0, 64), (0, -64), (200, 2 ** 31), (200, -2 ** 31), (200, -4), (200, 0)):
            memory = [0] * place + code(call(distance))
            told, values = do([], {PLACE: place, FOLLOWER: 8}, 1, (15, PLACE, FOLLOWER), memory)
            self.assertEqual(told, [1, 0, 0])
            self.assertEqual(values, [place, 8, (place + distance) % 2 ** 32])

    def test_all_thirty_bits_count(self):
        self.assertEqual(do([2 ** 31 - 1], {}, 1, (FOLLOWER,)), ([1, 0, 0], [TOP - 3]))
        self.assertEqual(do([2 ** 30 + 2 ** 29], {}, 1, (FOLLOWER,)), ([1, 0, 0], [2 ** 31]))


class Jumps(unittest.TestCase):

    def test_d_becomes_this_place(self):
        told, values = do([opi(56, 5, 4, 8)], {4: 400, FOLLOWER: 40, 5: 1}, 1, (5, 4, PLACE, FOLLOWER))
        self.assertEqual((told, values), ([1, 0, 0], [0, 400, 40, 408]))
        memory = [0] * 16 + code(op(56, 5, 4, 6))
        told, values = do([], {PLACE: 16, FOLLOWER: 20, 4: 400, 6: TOP - 3}, 1, (5, PLACE, FOLLOWER), memory)
        self.assertEqual((told, values), ([1, 0, 0], [16, 20, 396]))

    def test_the_target_is_reckoned_ahead_of_d(self):
        told, values = do([opi(56, 4, 4, 8)], {4: 400}, 1, (4, FOLLOWER))
        self.assertEqual(values, [0, 408])

    def test_d_0(self):
        self.assertEqual(do([opi(56, 0, 4, 8)], {4: 400}, 1, (0, FOLLOWER)), ([1, 0, 0], [0, 408]))

    def test_the_sum_goes_round(self):
        self.assertEqual(do([opi(56, 5, 4, -8)], {4: 4}, 1, (FOLLOWER,)), ([1, 0, 0], [TOP - 3]))
        self.assertEqual(do([opi(56, 5, 4, 8)], {4: TOP - 3}, 1, (FOLLOWER,)), ([1, 0, 0], [4]))

    def test_only_to_a_multiple_of_4(self):
        for number in (1, 2, 3, 5, 6, 7, -1, -2, -3):
            told, values = do([opi(56, 5, 0, number)], {5: 77}, 1, (5, PLACE, FOLLOWER))
            self.assertEqual((told, values), ([0, 7, 0], [77, 0, 4]))
        self.assertEqual(do([op(56, 5, 3, 4)], {3: 2, 4: 2}, 1, (FOLLOWER,)), ([1, 0, 0], [4]))

    def test_past_the_memory_the_jump_itself_is_done(self):
        told, values = do([opi(56, 5, 4, 0), NOP], {4: 65536}, 5, (PLACE, FOLLOWER))
        self.assertEqual((told, values), ([2, 1, 0], [65536, 65540]))


class AskedTraps(unittest.TestCase):

    def test_the_seven_lowest_bits_of_the_sum(self):
        for a, number in ((0, 0), (0, 127), (0, 128), (1, 127), (TOP, 0), (TOP, 2), (100, 100), (0, -1)):
            told, values = do([opi(58, 8, 1, number)], {1: a}, 1, (PLACE, FOLLOWER))
            self.assertEqual((told, values), ([0, 128 + (a + number) % 128, 0], [0, 4]))
        self.assertEqual(do([op(58, 8, 1, 2)], {1: 0x50, 2: 0x85})[0], [0, 128 + 0x55, 0])

    def test_bit_29_is_not_asked(self):
        self.assertEqual(do([opi(58, 16, 0, 1)])[0], [1, 0, 0])
        self.assertEqual(do([opi(58, 24, 0, 1)])[0], [0, 129, 0])

    def test_one_that_does_not_hold_does_nothing(self):
        words = [opi(58, 14, 3, 1)]
        told, values = do(words, {CONDITIONS: 8, 14: 5, 3: 6, MASK: 9}, 1, (CONDITIONS, 14, 3, MASK, PLACE, FOLLOWER))
        self.assertEqual((told, values), ([1, 0, 0], [8, 5, 6, 9, 4, 8]))


if __name__ == "__main__":
    unittest.main()
