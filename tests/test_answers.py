"""The interface: what goes into answers, and what comes out."""

import contextlib
import io
import unittest

from helpers import NONE, TOP, add, ask, earlier, from_, head, joined, made_rows, pack, packed
from helpers import row, rows, waits
from stationpack.desk import answers


class Answers(unittest.TestCase):
    def test_each_call_in_order(self):
        calls = [1, 2, 7, 10, 5, 0, 3, 7, 3, 64, 4, 7, 4, 7, 5, 6, 7, 1, 10, 2, 9, 9, 5, 0, 3, 7]
        told = [1, 0, 1, 1, 1, 1, 1, -1, 9, 8, 7, 1, 10, 4, 0, 0, 10, 0, 1, -2, 4, 1, 7, 10, 2, 1, -3, 1, 0]
        self.assertEqual(answers(calls), told)

    def test_each_call_of_blocks_in_order(self):
        block = [7, 2, 100, 6, 60, 0, 0, 10, 12, 0]
        calls = [6, 10] + block + [7, 1, 10] + block + [8, 101, 10] + block + [9, 101, 5, 10] + block
        calls += [10, 10] + block + [9, 7, 1, 220, 1, 4, 0, 0, 12, 0] + [3, 7]
        told = [8, 2, 7, 100, 5, 0, 160, 6, 0] + [4, 0, 160, 6, 0] + [1, 1] + [4, 1, 160, 6, 0]
        told += [13, 12, 7, 3, 100, 8, 60, 1, 0, 0, 10, 12, 12, 0] + [1, 0]
        self.assertEqual(answers(calls), told)

    def test_refusals_of_calls_of_blocks(self):
        calls = [6, 0] + [7, -1, 1, 9] + [7, 1, 6, 0, 1, 0, 2, 2, 0] + [8, -1, 2, 9, 9]
        calls += [9, 0, 1025, 0] + [9, 0, 0, 1, 5] + [10, 6, 0, 1, 0, 2, 2, 0, 6, 1, 1, 0, 2, 2, 0] + [10, 0, 0] + [3, 0]
        self.assertEqual(answers(calls), [1, -3, 1, -1, 1, -2, 1, -1, 1, -1, 1, -3, 1, -4, 1, -3, 1, 0])

    def test_a_refusal_is_one_number_and_the_next_call_is_found(self):
        calls = [2, 64, 1, 1, 1, 2, 1, 9, 0, 0, 2, 1, 8, 3, 3, 4, 2, 5, 3, 1, 1, 1, 3, 1]
        self.assertEqual(answers(calls), [1, -1, 1, 1, 1, -4, 1, -2, 1, -3, 1, 1])

    def test_it_gives_back_a_list_of_whole_numbers(self):
        block = packed(made_rows(70))
        calls = head(block) + rows(block) + row(5, block) + earlier(9, block) + from_(0, 9, block)
        calls += joined(block, packed([(TOP, 5, 5)]))
        given = answers([2, 0, 5, NONE, 1, 2, 0, TOP, -TOP, 0, 3, 0, 4, 0, 5, 0, 1] + calls)
        self.assertIs(type(given), list)
        for number in given:
            self.assertIs(type(number), int)

    def test_what_is_handed_in_is_not_changed(self):
        block, second = packed([(k, 5, 0) for k in range(70)]), packed([(99, 5, 0)])
        calls = [2, 0, 5, 6, 1, 5, 6, 7, 1, 10, 2, 9, 9, 4, 0, 1] + rows(block) + row(69, block) + earlier(9, block)
        calls += from_(0, 9, block) + joined(block, second) + joined(second, block) + rows(block + [1])
        before = list(calls)
        given = answers(calls)
        self.assertEqual(calls, before)
        self.assertIsNot(given, calls)

    def test_nothing_is_kept(self):
        calls = [3, 0, 2, 0, 100, 6, 1, 3, 0]
        self.assertEqual(answers(calls), [1, 0, 1, 1, 1, 1])
        self.assertEqual(answers(calls), [1, 0, 1, 1, 1, 1])
        answers(calls).append(5)
        self.assertEqual(answers([3, 0]), [1, 0])

    def test_nothing_is_printed(self):
        out = io.StringIO()
        with contextlib.redirect_stdout(out), contextlib.redirect_stderr(out):
            answers([2, 0, 5, 6, 1, 4, 0, 4, 0, 5, 1, 64])
            for block in (packed(made_rows(70)), [0, 1, 0, 1, 9]):
                answers(rows(block) + row(0, block) + earlier(9, block) + from_(0, 9, block) + joined(block, block))
        self.assertEqual(out.getvalue(), "")

    def test_no_call_of_blocks_changes_what_waits(self):
        waiting = [(c, 10 + k, k, c) for c in (0, 7, 63) for k in range(c + 1)]
        block, second = packed([(k, 5, 0) for k in range(70)], 7), packed([(99, 5, 0)], 7)
        asked = [head(block), rows(block), row(3, block), earlier(9, block), from_(0, 9, block), joined(block, second)]
        bad, other, full = [7, 1, 0, 0], packed([(99, 5, 0)], 8), packed([(99, 5, 0)] * 1024, 7)
        asked += [head([]), rows(bad), row(-1, block), row(70, block), row(0, bad), earlier(-1, block), earlier(1, bad),
                  from_(0, -1, block), from_(0, 1, bad), joined(block, bad), joined(second, block), joined(block, other),
                  joined(second, full)]
        ends = [waits(c) for c in range(64)] + [pack(c) for c in (0, 7, 63)]
        adds = [add(*each) for each in waiting]
        found = ask(*adds, *asked, *ends)
        self.assertEqual(found[len(adds) + len(asked):], ask(*adds, *ends)[len(adds):])
        refusals = found[len(adds) + 6:len(adds) + len(asked)]
        self.assertEqual(refusals, [[-3], [-3], [-1], [-2], [-3], [-1], [-3], [-1], [-3], [-3], [-4], [-4], [-5]])

    def test_each_call_is_about_its_own_block(self):
        first, second = packed([(5, 6, 7)], 1), packed([(8, 9, 10), (11, 12, 13)], 2)
        self.assertEqual(ask(rows(first), rows(second), rows([9]), rows(first)),
                         [[1, 1, 5, 6, 7], [2, 2, 8, 9, 10, 11, 12, 13], [-3], [1, 1, 5, 6, 7]])

    def test_what_is_packed_can_be_asked_in_the_same_list(self):
        block = packed([(5, 6, 7)], 1)
        self.assertEqual(ask(add(1, 5, 6, 7), pack(1), rows(block), add(1, 0), waits(1)),
                         [[1], [len(block)] + block, [1, 1, 5, 6, 7], [1], [1]])

    def test_as_many_calls_as_there_may_be(self):
        self.assertEqual(answers([3, 0] * 3000), [1, 0] * 3000)
        calls = [number for k in range(1500) for number in (2, k % 64, 100, 8, 0, 4, k % 64)]
        told = [number for k in range(1500) for number in (1, 1, 9, 8, k % 64, 1, 100, 4, 0, 0, 16, 0)]
        self.assertEqual(answers(calls), told)

    def test_a_block_as_long_as_it_may_be(self):
        block = [0, 1, 5, 151, 124] + [9] * 15895
        self.assertEqual(len(block), 15900)
        self.assertEqual(answers([5, 15900] + block), [4, 1, 0, 5, 15895])
        self.assertEqual(answers([6, 15900] + block + [7, 1, 0]), [1, -3, 1, -3])

    def test_many_rows_out_of_few_bytes(self):
        block = packed([(k, NONE, 0) for k in range(1024)])
        many = 15999 // (len(block) + 2)
        told = [number for k in range(1024) for number in (k, NONE, 0)]
        self.assertEqual(ask(*[rows(block)] * many), [[1024, 0] + told] * many)


if __name__ == "__main__":
    unittest.main()
