"""Promise 3: the operations of 3, between registers and memory."""

import unittest

from tests.helper import CONDITIONS, PLACE, TOP, Y, code, do, move, movei

SIZES = {0: 4, 1: 1, 2: 2, 3: 8, 4: 4, 5: 1, 6: 2, 7: 8, 9: 1, 10: 2, 13: 1, 15: 4}
STORED = [0x81, 0x02, 0xF3, 0x04, 0x75, 0x86, 0x97, 0xA8]
D = {4: 0x1A2B3C4D, 5: 0x5E6F7081}


def wholly(numbers, with_sign=False):
    return int.from_bytes(numbers, "big", signed=with_sign) % 2 ** 32


def moved(operation, place, d=4, held=None):
    """One move at place, with STORED at 200: the run's answer, registers d and d + 1, this place."""
    memory = code(move(operation, d, 1, 2)) + [0] * 196 + STORED
    before = {1: place, 2: 0, CONDITIONS: 15, Y: 3}
    before.update(D if held is None else held)
    return do([], before, 1, (d, (d + 1) % 32, PLACE), memory)


class Loads(unittest.TestCase):

    def test_each_place_of_each_size(self):
        for operation, size, sign in ((0, 4, False), (1, 1, False), (2, 2, False), (9, 1, True), (10, 2, True)):
            for offset in range(0, 8, size):
                with self.subTest(operation=operation, offset=offset):
                    expected = wholly(STORED[offset:offset + size], sign)
                    self.assertEqual(moved(operation, 200 + offset), ([1, 0, 0], [expected, D[5], 4]))

    def test_with_and_without_signs(self):
        self.assertEqual(moved(1, 200)[1][0], 0x81)
        self.assertEqual(moved(9, 200)[1][0], 0xFFFFFF81)
        self.assertEqual(moved(9, 201)[1][0], 0x02)
        self.assertEqual(moved(2, 202)[1][0], 0xF304)
        self.assertEqual(moved(10, 202)[1][0], 0xFFFFF304)
        self.assertEqual(moved(10, 204)[1][0], 0x7586)

    def test_two_words(self):
        self.assertEqual(moved(3, 200), ([1, 0, 0], [wholly(STORED[:4]), wholly(STORED[4:]), 4]))
        self.assertEqual(moved(3, 200, 0)[1], [0, wholly(STORED[4:]), 4])
        self.assertEqual(moved(3, 200, 30)[1], [wholly(STORED[:4]), wholly(STORED[4:]), 4])

    def test_d_may_be_where_the_place_came_from(self):
        memory = code(movei(3, 2, 2, 8)) + [0] * 196 + STORED
        told, values = do([], {2: 192}, 1, (2, 3), memory)
        self.assertEqual((told, values), ([1, 0, 0], [wholly(STORED[:4]), wholly(STORED[4:])]))

    def test_register_0_stays_0(self):
        for operation in (0, 1, 2, 9, 10):
            self.assertEqual(moved(operation, 200, 0)[1][0], 0)


class Stores(unittest.TestCase):

    def changes(self, place, now):
        told = []
        for offset, value in enumerate(now):
            if value != STORED[place - 200 + offset]:
                told += [place + offset, value]
        return [len(told)] + told

    def test_each_place_of_each_size(self):
        for operation, size in ((4, 4), (5, 1), (6, 2)):
            for offset in range(0, 8, size):
                with self.subTest(operation=operation, offset=offset):
                    now = list((D[4] % 256 ** size).to_bytes(size, "big"))
                    told, values = moved(operation, 200 + offset)
                    self.assertEqual(told, [1, 0] + self.changes(200 + offset, now))
                    self.assertEqual(values, [D[4], D[5], 4])

    def test_two_words(self):
        now = [0x1A, 0x2B, 0x3C, 0x4D, 0x5E, 0x6F, 0x70, 0x81]
        self.assertEqual(moved(7, 200), ([1, 0] + self.changes(200, now), [D[4], D[5], 4]))
        now = [0, 0, 0, 0, 0, 0, 0, 200]
        self.assertEqual(moved(7, 200, 0)[0], [1, 0] + self.changes(200, now))

    def test_only_bytes_that_are_another_are_told(self):
        self.assertEqual(moved(4, 200, held={4: 0x8102F305})[0], [1, 0, 2, 203, 5])
        self.assertEqual(moved(4, 200, held={4: 0x8102F304})[0], [1, 0, 0])
        self.assertEqual(moved(5, 203, held={4: 0xFFFFFF04})[0], [1, 0, 0])


class Exchanges(unittest.TestCase):

    def test_a_byte_and_255(self):
        for offset in range(8):
            told, values = moved(13, 200 + offset)
            self.assertEqual(told, [1, 0, 2, 200 + offset, 255])
            self.assertEqual(values, [STORED[offset], D[5], 4])
        self.assertEqual(moved(13, 200, 0), ([1, 0, 2, 200, 255], [0, 200, 4]))

    def test_a_byte_that_is_255_already(self):
        memory = code(movei(13, 4, 0, 5)) + [0, 255]
        self.assertEqual(do([], {4: 7}, 1, (4,), memory), ([1, 0, 0], [255]))

    def test_d_and_the_word_change_places(self):
        told, values = moved(15, 204)
        self.assertEqual(told, [1, 0, 8, 204, 0x1A, 205, 0x2B, 206, 0x3C, 207, 0x4D])
        self.assertEqual(values, [wholly(STORED[4:]), D[5], 4])

    def test_with_register_0(self):
        told, values = moved(15, 200, 0)
        self.assertEqual((told, values), ([1, 0, 8, 200, 0, 201, 0, 202, 0, 203, 0], [0, 200, 4]))

    def test_with_the_register_of_the_place(self):
        told, values = moved(15, 200, 1, {})
        self.assertEqual((told, values[0]), ([1, 0, 8, 200, 0, 201, 0, 202, 0, 203, 200], 0x8102F304))


class Traps(unittest.TestCase):

    def test_a_place_that_is_no_multiple(self):
        for operation, size in SIZES.items():
            for offset in range(8):
                with self.subTest(operation=operation, offset=offset):
                    told, values = moved(operation, 200 + offset)
                    if offset % size:
                        self.assertEqual((told, values), ([0, 7, 0], [D[4], D[5], 0]))
                    else:
                        self.assertEqual(told[:2], [1, 0])

    def test_the_end_of_the_memory(self):
        for operation, size in SIZES.items():
            with self.subTest(operation=operation):
                self.assertEqual(moved(operation, 65536 - size)[0][:2], [1, 0])
                for place in (65536, 65536 + size, 2 ** 31, 2 ** 32 - 8, 2 ** 32 - size):
                    self.assertEqual(moved(operation, place), ([0, 9, 0], [D[4], D[5], 0]))

    def test_no_multiple_comes_ahead_of_past_the_end(self):
        for operation, size in SIZES.items():
            for place in (65535, 65537, 65542, TOP, TOP - 1):
                if place % size:
                    self.assertEqual(moved(operation, place), ([0, 7, 0], [D[4], D[5], 0]))

    def test_an_odd_d_of_two_words_comes_ahead_of_both(self):
        for operation in (3, 7):
            for place in (200, 204, 201, 65536, 65537):
                self.assertEqual(moved(operation, place, 5), ([0, 2, 0], [D[5], 0, 0]))
            for d in range(32):
                self.assertEqual(moved(operation, 200, d, {})[0][:2], [0, 2] if d % 2 else [1, 0])

    def test_no_operation_comes_ahead_of_any_place(self):
        for operation in (8, 11, 12, 14, 16, 32, 63):
            for place in (200, 201, 65536, 65537):
                self.assertEqual(moved(operation, place), ([0, 2, 0], [D[4], D[5], 0]))

    def test_other_operations_take_an_odd_d(self):
        for operation, size in SIZES.items():
            if size < 8:
                self.assertEqual(moved(operation, 200, 5)[0][:2], [1, 0])


class PlacesOfMoves(unittest.TestCase):

    def test_the_sum_goes_round(self):
        memory = code(move(1, 4, 1, 2), movei(1, 5, 1, -1), movei(1, 6, 0, 15)) + [1, 2, 3, 4]
        told, values = do([], {1: 16, 2: 2 ** 32 - 2}, 3, (4, 5, 6), memory)
        self.assertEqual((told, values), ([3, 0, 0], [3, 4, 4]))
        self.assertEqual(do([movei(1, 4, 1, 1)], {1: TOP}, 1, (4,)), ([1, 0, 0], [0xC8]))
        self.assertEqual(do([movei(1, 4, 0, -1)])[0], [0, 9, 0])

    def test_conditions_and_y_stay(self):
        for operation in SIZES:
            memory = code(move(operation, 4, 1, 2))
            told, values = do([], {1: 200, CONDITIONS: 9, Y: 77}, 1, (CONDITIONS, Y), memory)
            self.assertEqual((told[:2], values), ([1, 0], [9, 77]))

    def test_bits_12_to_5_beside_a_register_count_for_nothing(self):
        memory = code(move(0, 4, 1, 2) | 0x1FE0) + [0] * 196 + STORED
        self.assertEqual(do([], {1: 100, 2: 100}, 1, (4,), memory), ([1, 0, 0], [0x8102F304]))


if __name__ == "__main__":
    unittest.main()
