"""The interface: what goes into answers, and what comes out."""

import contextlib
import io
import unittest

from helpers import NONE, TOP
from stationpack.desk import answers


class Answers(unittest.TestCase):
    def test_each_call_in_order(self):
        calls = [1, 2, 7, 10, 5, 0, 3, 7, 3, 64, 4, 7, 4, 7, 5, 6, 7, 1, 10, 2, 9, 9, 5, 0, 3, 7]
        told = [1, 0, 1, 1, 1, 1, 1, -1, 9, 8, 7, 1, 10, 4, 0, 0, 10, 0, 1, -2, 4, 1, 7, 10, 2, 1, -3, 1, 0]
        self.assertEqual(answers(calls), told)

    def test_a_refusal_is_one_number_and_the_next_call_is_found(self):
        calls = [2, 64, 1, 1, 1, 2, 1, 9, 0, 0, 2, 1, 8, 3, 3, 4, 2, 5, 3, 1, 1, 1, 3, 1]
        self.assertEqual(answers(calls), [1, -1, 1, 1, 1, -4, 1, -2, 1, -3, 1, 1])

    def test_it_gives_back_a_list_of_whole_numbers(self):
        given = answers([2, 0, 5, NONE, 1, 2, 0, TOP, -TOP, 0, 3, 0, 4, 0, 5, 0, 1])
        self.assertIs(type(given), list)
        for number in given:
            self.assertIs(type(number), int)

    def test_what_is_handed_in_is_not_changed(self):
        calls = [2, 0, 5, 6, 1, 5, 6, 7, 1, 10, 2, 9, 9, 4, 0, 1]
        before = list(calls)
        given = answers(calls)
        self.assertEqual(calls, before)
        self.assertIsNot(given, calls)

    def test_nothing_is_kept(self):
        calls = [3, 0, 2, 0, 100, 6, 1, 3, 0]
        self.assertEqual(answers(calls), [1, 0, 1, 1, 1, 1])
        self.assertEqual(answers(calls), [1, 0, 1, 1, 1, 1])
        answers(calls).append(5)
        self.assertEqual(answers([3, 0]), [1, 0])

    def test_nothing_is_printed(self):
        out = io.StringIO()
        with contextlib.redirect_stdout(out), contextlib.redirect_stderr(out):
            answers([2, 0, 5, 6, 1, 4, 0, 4, 0, 5, 1, 64])
        self.assertEqual(out.getvalue(), "")

    def test_as_many_calls_as_there_may_be(self):
        self.assertEqual(answers([3, 0] * 3000), [1, 0] * 3000)
        calls = [number for k in range(1500) for number in (2, k % 64, 100, 8, 0, 4, k % 64)]
        told = [number for k in range(1500) for number in (1, 1, 9, 8, k % 64, 1, 100, 4, 0, 0, 16, 0)]
        self.assertEqual(answers(calls), told)

    def test_a_block_as_long_as_it_may_be(self):
        block = [0, 1, 5, 151, 124] + [9] * 15895
        self.assertEqual(len(block), 15900)
        self.assertEqual(answers([5, 15900] + block), [4, 1, 0, 5, 15895])


if __name__ == "__main__":
    unittest.main()
