"""The form of what is handed in and given back."""

import contextlib
import io
import unittest

from tests.helper import NOP, PLACE, ask, branch, code, get, opi, put, run, taken_apart
from windowstepsdesk.desk import answers


class Form(unittest.TestCase):

    def test_each_answer_stands_behind_its_count(self):
        calls = [0] + [1, 5, 77] + [2, 5] + [2, 38] + [1, 38, 1] + [3, -1, 0] + [3, 0, 0] + [3, 1, 4, 1, 0, 0, 0] + [0]
        self.assertEqual(
            answers(calls),
            [1, 0, 1, 0, 2, 0, 77, 1, -2, 1, -2, 1, -2, 3, 0, 0, 0, 3, 1, 0, 0, 1, 0])

    def test_run_counts_what_follows(self):
        program = code(opi(0, 1, 0, 255), 0xC0282020, 0xC2282022)
        self.assertEqual(answers([0] + run(3, program)), [1, 0, 5, 3, 0, 2, 34, 255])

    def test_only_a_reset(self):
        self.assertEqual(answers([0]), [1, 0])

    def test_what_was_handed_in_is_as_it_was(self):
        program = code(opi(0, 1, 0, 255), 0xC2282000, NOP)
        calls = [0] + put(3, 9) + run(3, program) + get(3) + run(-1, program)
        before = list(calls)
        answers(calls)
        self.assertEqual(calls, before)

    def test_nothing_is_kept(self):
        program = code(opi(0, 1, 0, 255), 0xC2282000, NOP)
        calls = [0] + put(3, 9) + put(32, 8) + put(36, 5) + put(37, 0) + run(3, program) + get(3) + get(1) + get(34)
        first = answers(calls)
        answers([0, 1, 1, 1, 1, 36, 7, 1, 9, 3])
        self.assertEqual(answers(calls), first)
        self.assertEqual(answers([0, 2, 36, 2, 1, 2, 37]), [1, 0, 2, 0, 0, 2, 0, 0, 2, 0, 2])

    def test_what_was_given_back_is_new_each_time(self):
        first = answers([0, 2, 37])
        first.append(5)
        self.assertEqual(answers([0, 2, 37]), [1, 0, 2, 0, 2])

    def test_answers_are_whole_numbers_in_a_list(self):
        program = code(opi(16, 1, 0, -1), opi(20, 2, 1, 1), branch(3, 8), opi(34, 3, 0, 1), 0xC2282040)
        calls = [0] + run(9, program)
        for which in range(38):
            calls += get(which)
        told = answers(calls)
        self.assertIs(type(told), list)
        self.assertEqual({type(number) for number in told}, {int})

    def test_nothing_is_printed(self):
        printed = io.StringIO()
        with contextlib.redirect_stdout(printed), contextlib.redirect_stderr(printed):
            answers([0] + run(5, code(NOP, NOP)) + get(38))
        self.assertEqual(printed.getvalue(), "")


class Size(unittest.TestCase):

    def test_a_thousand_calls(self):
        told = ask(*([put(1, 7)] + [get(1)] * 998))
        self.assertEqual(told, [[0]] + [[0, 7]] * 998)

    def test_a_thousand_runs_share_one_machine(self):
        one_more = run(1, code(opi(0, 1, 1, 1)))
        told = ask(*[one_more if turn % 2 == 0 else put(PLACE, 0) for turn in range(998)], get(1))
        self.assertEqual(told[-1], [0, 499])

    def test_as_long_a_list_as_may_be(self):
        memory = code(NOP) + [0] * 1020
        calls = [0] + run(1, memory) * 30 + run(1, memory[:883]) + [2, PLACE] + [0]
        self.assertEqual(len(calls), 31700)
        told = taken_apart(answers(calls))
        self.assertEqual(told, [[0], [1, 0, 0]] + [[0, 2, 0]] * 30 + [[0, 4], [0]])

    def test_every_byte_may_be_another(self):
        # Stores 255 at each place behind the program and ends at the first place past the memory.
        program = code(opi(0, 1, 0, -1), opi(0, 2, 0, 20), 0xC2288000, branch(8, -4), opi(0, 2, 2, 1))
        told = ask(run(1000000, program))[0]
        self.assertEqual(told[:3], [2 + 3 * (65536 - 20), 9, 2 * (65536 - 20)])
        self.assertEqual(told[3::2], list(range(20, 65536)))
        self.assertEqual(set(told[4::2]), {255})


if __name__ == "__main__":
    unittest.main()
