"""Promise 3: steps, the places, the traps that any instruction may meet, and what is answered of the memory."""

import unittest

from tests.helper import (CONDITIONS, FOLLOWER, MASK, NOP, PLACE, TOP, WINDOW, Y, ask, branch, call, code, do,
                          everything, get, high, move, movei, op, opi, put, run)

# One of each trap, at place 0, with register 1 holding 65536 and register 2 holding 1.
TRAPPING = {
    2: 0,
    5: opi(60, 0, 0, 0),
    6: opi(61, 0, 0, 0),
    7: movei(0, 3, 2, 0),
    9: movei(0, 3, 1, 0),
    10: opi(34, 3, 2, 0),
    42: opi(14, 3, 2, 0),
    133: opi(58, 8, 0, 5),
}


class Steps(unittest.TestCase):

    def test_refused_below_0_and_above_1000000(self):
        for steps in (-2 ** 31, -2, -1, 1000001, 2 ** 31 - 1):
            with self.subTest(steps=steps):
                told = ask(run(steps, code(opi(0, 1, 0, 5))), *everything())
                self.assertEqual(told, [[-2]] + ask(*everything()))

    def test_0_does_nothing(self):
        self.assertEqual(ask(run(0, code(opi(0, 1, 0, 5))), get(1), get(PLACE)), [[0, 0, 0], [0, 0], [0, 0]])

    def test_0_comes_ahead_of_any_trap(self):
        for before in ([], [put(PLACE, 65536)], [put(PLACE, TOP)]):
            self.assertEqual(ask(*before, run(0))[-1], [0, 0, 0])

    def test_1000000_are_done(self):
        told = ask(run(1000000, code(branch(8, 0), opi(0, 1, 1, 1))), get(1), get(PLACE), get(FOLLOWER))
        self.assertEqual(told, [[1000000, 0, 0], [0, 500000], [0, 0], [0, 4]])

    def test_as_many_as_are_told(self):
        program = code(*[opi(0, 1, 1, 1)] * 10)
        for steps in range(11):
            told = ask(run(steps, program), get(1), get(PLACE), get(FOLLOWER))
            self.assertEqual(told, [[steps, 0, 0], [0, steps], [0, 4 * steps], [0, 4 * steps + 4]])

    def test_steps_end_just_ahead_of_a_trap(self):
        program = code(NOP, NOP, 0)
        self.assertEqual([ask(run(steps, program))[0] for steps in range(5)],
                         [[0, 0, 0], [1, 0, 0], [2, 0, 0], [2, 2, 0], [2, 2, 0]])

    def test_the_machine_stays_from_run_to_run(self):
        program = code(branch(8, 12), opi(0, 1, 1, 1), NOP, opi(0, 1, 1, 16))
        told = ask(run(1, program), get(PLACE), get(FOLLOWER), run(1, program), get(PLACE), run(1, program), get(1))
        self.assertEqual(told, [[1, 0, 0], [0, 4], [0, 12], [1, 0, 0], [0, 12], [1, 0, 0], [0, 17]])


class Traps(unittest.TestCase):

    def test_nothing_is_done(self):
        before = [put(number, 7000 + number) for number in range(32)]
        before += [put(Y, 3), put(CONDITIONS, 9), put(1, 65536), put(2, 1), put(MASK, 255), put(FOLLOWER, 400)]
        untouched = ask(*before, *everything())
        for number, word in TRAPPING.items():
            with self.subTest(trap=number):
                told = ask(*before, run(5, code(word)), *everything())
                self.assertEqual(told[len(before)], [0, number, 0])
                self.assertEqual(told[len(before) + 1:], untouched[len(before):])

    def test_a_trap_behind_other_instructions(self):
        for number, word in TRAPPING.items():
            with self.subTest(trap=number):
                told = ask(put(1, 65536), put(2, 1), put(MASK, 255), put(31, 2),
                           run(9, code(opi(0, 31, 31, 1), opi(0, 31, 31, 1), word)), get(31), get(PLACE), get(FOLLOWER))
                self.assertEqual(told[4:], [[2, number, 0], [0, 4], [0, 8], [0, 12]])

    def test_a_trap_comes_again_in_the_next_run(self):
        self.assertEqual(ask(run(3, code(NOP, 0)), run(3, code(NOP, 0))), [[1, 2, 0], [0, 2, 0]])

    def test_a_trap_behind_a_jump_keeps_both_places(self):
        told = ask(run(5, code(branch(8, 100), 0)), get(PLACE), get(FOLLOWER))
        self.assertEqual(told, [[1, 2, 0], [0, 4], [0, 100]])

    def test_an_instruction_past_the_memory(self):
        for place in (65536, 65540, 2 ** 31, TOP - 3):
            told = ask(put(PLACE, place), run(1), get(PLACE), get(FOLLOWER))
            self.assertEqual(told[1:], [[0, 1, 0], [0, place], [0, 4]])

    def test_the_last_instruction_of_the_memory(self):
        # The memory ends with zeros, and that is no instruction; a store writes one there first.
        told = ask(put(1, NOP), put(2, 65532), run(3, code(move(4, 1, 2, 0), op(56, 0, 2, 0), NOP)), get(PLACE))
        self.assertEqual(told[2:], [[3, 0, 2, 65532, 1], [0, 65532]])
        program = code(move(4, 1, 2, 0), op(56, 0, 2, 0), NOP)
        told = ask(put(1, NOP), put(2, 65532), run(9, program), get(PLACE), get(FOLLOWER))
        self.assertEqual(told[2:], [[4, 1, 2, 65532, 1], [0, 65536], [0, 65540]])

    def test_zeros_are_no_instruction(self):
        self.assertEqual(ask(run(3)), [[0, 2, 0]])
        self.assertEqual(ask(put(PLACE, 65532), run(3))[1], [0, 2, 0])

    def test_numbers_that_are_no_operation(self):
        good = {2: set(range(40)) - {9, 13, 25, 29} | {40, 48, 56, 58, 59, 60, 61},
                3: {0, 1, 2, 3, 4, 5, 6, 7, 9, 10, 13, 15}}
        for form in (2, 3):
            for operation in range(64):
                with self.subTest(form=form, operation=operation):
                    word = form << 30 | operation << 19 | 1 << 13 | 8
                    told = ask(put(MASK, 0), run(1, code(word)))[1]
                    self.assertEqual(told[1] == 2, operation not in good[form])

    def test_numbers_that_are_no_branch(self):
        for choice in range(8):
            told = ask(run(1, code(choice << 22)))[0]
            self.assertEqual(told, [1, 0, 0] if choice in (2, 4) else [0, 2, 0])


class Places(unittest.TestCase):

    def test_the_next_place_goes_round(self):
        told = ask(put(FOLLOWER, TOP), run(1, code(NOP)), get(PLACE), get(FOLLOWER), run(1))
        self.assertEqual(told[1:], [[1, 0, 0], [0, TOP - 3], [0, 0], [0, 1, 0]])

    def test_both_places_are_followed(self):
        program = code(opi(0, 1, 1, 1), opi(0, 1, 1, 2), opi(0, 1, 1, 4), opi(0, 1, 1, 8))
        told = ask(put(PLACE, 12), put(FOLLOWER, 4), run(3, program), get(1), get(PLACE), get(FOLLOWER))
        self.assertEqual(told[2:], [[3, 0, 0], [0, 14], [0, 12], [0, 16]])


class MemoryOfARun(unittest.TestCase):

    def test_other_bytes_are_0(self):
        told = ask(put(2, 65532), run(2, code(movei(0, 3, 0, 8), move(0, 4, 2, 0)) + [1, 2]), get(3), get(4))
        self.assertEqual(told[1:], [[2, 0, 0], [0, 0x01020000], [0, 0]])

    def test_1024_bytes(self):
        memory = code(movei(0, 1, 0, 1020), movei(0, 2, 0, 1024), NOP) + [7] * 1012
        told = ask(run(2, memory), get(1), get(2))
        self.assertEqual(told, [[2, 0, 0], [0, 0x07070707], [0, 0]])

    def test_it_is_told_anew(self):
        store = code(movei(4, 1, 0, 512), NOP)
        load = code(NOP, movei(0, 2, 0, 512))
        told = ask(put(1, TOP), run(1, store), run(1, load), get(2))
        self.assertEqual(told[1:], [[1, 0, 8, 512, 255, 513, 255, 514, 255, 515, 255], [1, 0, 0], [0, 0]])

    def test_only_what_is_another_now_and_in_order(self):
        memory = code(movei(5, 1, 0, 300), movei(5, 2, 0, 200), movei(5, 3, 0, 201), movei(5, 4, 0, 300),
                      movei(5, 0, 0, 400), movei(5, 1, 0, 31))
        memory += [9] * (300 - len(memory))
        told = ask(put(1, 5), put(2, 6), put(3, 9), put(4, 0), run(6, memory))[4]
        self.assertEqual(told, [6, 0, 4, 31, 5, 200, 6])

    def test_what_was_changed_ahead_of_a_trap_is_told(self):
        told = ask(put(1, 0x01020304), run(9, code(movei(4, 1, 0, 64), 0)))[1]
        self.assertEqual(told, [1, 2, 8, 64, 1, 65, 2, 66, 3, 67, 4])

    def test_an_instruction_may_be_written_over(self):
        # The second instruction is written over by the first, ahead of being done.
        told, values = do([movei(4, 1, 0, 4), high(5, 1)], {1: opi(0, 6, 0, 33)}, 2, (5, 6))
        self.assertEqual((told[:2], values), ([2, 0], [0, 33]))

    def test_an_instruction_written_over_after_it_was_done(self):
        program = [opi(0, 6, 6, 1), movei(4, 1, 0, 0), branch(8, -8), NOP]
        told, values = do(program, {1: opi(0, 6, 6, 16)}, 5, (6,))
        self.assertEqual((told[:2], values), ([5, 0], [17]))

    def test_a_program_of_several_windows(self):
        # A routine is called, takes a window, adds its two ins, gives the sum back and returns.
        program = [
            opi(0, 8, 0, 20), call(16), opi(0, 9, 0, 22), opi(58, 8, 0, 1), 0,
            opi(60, 14, 14, -96), op(0, 16, 24, 25), opi(56, 0, 31, 8), op(61, 8, 16, 0),
        ]
        told, values = do(program, {}, 50, (8, 15, PLACE, WINDOW))
        self.assertEqual(told, [7, 129, 0])
        self.assertEqual(values, [42, 4, 12, 0])


if __name__ == "__main__":
    unittest.main()
