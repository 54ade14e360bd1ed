"""Promise 10: joined."""

import unittest

from helpers import NONE, TOP, ask, block_of, joined, made_rows, packed, small


class Joined(unittest.TestCase):
    def joins(self, found, at, c=0):
        wanted = packed(found, c)
        answer = ask(joined(packed(found[:at], c), packed(found[at:], c)))
        self.assertEqual(answer, [[len(wanted)] + wanted])

    def test_by_hand(self):
        self.assertEqual(ask(joined([7, 1, 100, 4, 0, 0, 10, 0], [7, 1, 160, 1, 4, 0, 0, 12, 0])),
                         [[10, 7, 2, 100, 6, 60, 0, 0, 10, 12, 0]])

    def test_anywhere(self):
        found = made_rows(20)
        for at in range(1, 20):
            self.joins(found, at, 63)

    def test_where_the_first_ones_last_group_is_not_full(self):
        found = made_rows(300)
        for at in (1, 2, 60, 63, 65, 100, 127, 129, 200, 299):
            self.joins(found, at, 4)

    def test_where_the_first_ones_last_group_is_full(self):
        found = made_rows(300)
        for at in (64, 128, 192, 256):
            self.joins(found, at)

    def test_up_to_one_full_group(self):
        found = made_rows(64)
        for at in (1, 32, 63):
            self.joins(found, at)

    def test_the_same_time(self):
        self.joins([(5, 1, 0), (9, 2, 0), (9, 3, 0), (10, 4, 0)], 2)
        self.joins([(TOP, k, 0) for k in range(130)], 65)
        self.joins([(0, NONE, 255)] * 2, 1)

    def test_the_ends_of_the_ranges(self):
        self.joins([(0, -TOP, 0), (TOP, TOP, 255)], 1)

    def test_1024_rows(self):
        found = [(10 * k, k * k % 7, 0) for k in range(1024)]
        for at in (1, 500, 512, 1000, 1023):
            self.joins(found, at)

    def test_a_block_with_itself(self):
        block = packed([(5, 6, 7)] * 3, 8)
        wanted = packed([(5, 6, 7)] * 6, 8)
        self.assertEqual(ask(joined(block, block)), [[len(wanted)] + wanted])


class Refused(unittest.TestCase):
    def bad_blocks(self):
        good = packed([(5, 6, 7)])
        heads = [[], [64] + good[1:], [0, 0], good + [0], good[:-1], [0, 129, 0, 0, 2, 2, 0],
                 [0] + [129] * 10 + [1, 0, 2, 2, 0], [0, 1] + small(TOP + 1) + [2, 2, 0]]
        groups = [block_of(1, [(0, [])]), block_of(1, [(5, [2, 0, 0])]), block_of(1, [(5, [0, 1, 14, 0])]),
                  block_of(65, [(0, [10, 123, 2, 0]), (640, [2])]),
                  block_of(65, [(0, [10, 123, 2, 0]), (629, [2, 0])]),
                  block_of(65, [(0, [10, 121, 1, 2, 0]), (640, [2, 0])])]
        return heads + groups

    def test_one_is_no_block(self):
        before, behind = packed([(0, 1, 0)]), packed([(TOP, 1, 0)])
        for bad in self.bad_blocks():
            self.assertEqual(ask(joined(bad, behind), joined(before, bad), joined(bad, bad)), [[-3]] * 3, bad)

    def test_no_block_ahead_of_other_channels_and_of_order(self):
        other, behind = packed([(0, 1, 0)], 5), packed([(TOP, 1, 0)])
        for bad in self.bad_blocks():
            self.assertEqual(ask(joined(bad, other), joined(other, bad), joined(behind, bad)), [[-3]] * 3, bad)

    def test_no_block_ahead_of_too_many_rows(self):
        full = packed([(0, 1, 0)] * 1024)
        for bad in self.bad_blocks():
            self.assertEqual(ask(joined(bad, full), joined(full, bad)), [[-3]] * 2, bad)

    def test_other_channels(self):
        self.assertEqual(ask(joined(packed([(5, 1, 0)], 1), packed([(6, 1, 0)], 2))), [[-4]])
        self.assertEqual(ask(joined(packed([(5, 1, 0)], 63), packed([(6, 1, 0)], 0))), [[-4]])

    def test_a_second_that_begins_before_the_first_ends(self):
        first = packed([(5, 1, 0), (9, 1, 0)])
        for time, wanted in ((0, -4), (5, -4), (8, -4)):
            self.assertEqual(ask(joined(first, packed([(time, 1, 0), (TOP, 1, 0)]))), [[wanted]])
        for time in (9, 10, TOP):
            self.assertGreater(ask(joined(first, packed([(time, 1, 0), (TOP, 1, 0)])))[0][0], 0)
        first = packed([(k, 1, 0) for k in range(100)])
        self.assertEqual(ask(joined(first, packed([(98, 1, 0)])), joined(first, first)), [[-4]] * 2)

    def test_more_than_1024_rows(self):
        found = [(k, NONE, 0) for k in range(1025)]
        for at in (1, 512, 1000, 1024):
            self.assertEqual(ask(joined(packed(found[:at]), packed(found[at:]))), [[-5]])
        self.assertEqual(ask(joined(packed([(5, 1, 0)] * 1024), packed([(5, 1, 0)] * 1024))), [[-5]])

    def test_order_and_channels_ahead_of_too_many_rows(self):
        full = [(9, 1, 0)] * 1024
        self.assertEqual(ask(joined(packed(full), packed([(8, 1, 0)])), joined(packed(full, 1), packed(full, 2)),
                             joined(packed(full), packed(full))), [[-4], [-4], [-5]])


if __name__ == "__main__":
    unittest.main()
