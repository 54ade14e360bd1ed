"""Promise 5: head."""

import unittest

from helpers import NONE, TOP, add, ask, head, packed, small, waits


class HeadOfBlocks(unittest.TestCase):
    def test_one_group(self):
        self.assertEqual(ask(head(packed([(1000, 7, 0)], 5))), [[1, 5, 1000, 4]])
        self.assertEqual(ask(head(packed([(9, NONE, 0)] * 64, 63))), [[64, 63, 9, 4]])

    def test_several_groups(self):
        rows = [(100 + 10 * k, NONE, 0) for k in range(129)]
        self.assertEqual(ask(head(packed(rows, 2))), [[129, 2, 100, 4, 740, 4, 1380, 2]])

    def test_1024_rows(self):
        rows = [(k, k * k, k % 2) for k in range(1024)]
        answer = ask(head(packed(rows)))[0]
        self.assertEqual(answer[:2], [1024, 0])
        self.assertEqual(answer[2::2], list(range(0, 1024, 64)))
        self.assertEqual(len(answer), 34)

    def test_the_last_time(self):
        self.assertEqual(ask(head(packed([(TOP, 0, 0)] * 65))), [[65, 0, TOP, 7, TOP, 4]])

    def test_a_long_group(self):
        rows = [(0, NONE, k % 2) for k in range(64)]
        self.assertEqual(ask(head(packed(rows))), [[64, 0, 0, 132]])

    def test_nothing_is_changed(self):
        self.assertEqual(ask(add(1, 5), head([64]), head([1, 1, 0, 0]), waits(1)), [[1], [-3], [1, 1, 0, 0], [1]])


class GroupsAreNotLookedAt(unittest.TestCase):
    def test_any_bytes(self):
        self.assertEqual(ask(head([3, 2, 7, 5, 255, 255, 255, 255, 255])), [[2, 3, 7, 5]])

    def test_groups_of_no_bytes(self):
        self.assertEqual(ask(head([3, 1, 7, 0])), [[1, 3, 7, 0]])
        self.assertEqual(ask(head([3, 65, 7, 2, 0, 0, 1, 1])), [[65, 3, 7, 2, 7, 0]])


class Refused(unittest.TestCase):
    def refused(self, block):
        self.assertEqual(ask(head(block), waits(0)), [[-3], [0]], block)

    def test_the_channel(self):
        self.assertEqual(ask(head([63, 1, 0, 2, 2, 0])), [[1, 63, 0, 2]])
        self.refused([64, 1, 0, 2, 2, 0])
        self.refused([255, 1, 0, 2, 2, 0])

    def test_how_many_rows(self):
        self.refused([0, 0])
        self.refused([0, 0, 0, 2, 2, 0])
        sixteen = [0, 0] * 16
        self.assertEqual(ask(head([0] + small(1024) + sixteen)), [[1024, 0] + sixteen])
        self.refused([0] + small(1025) + sixteen)
        self.refused([0] + small(1025) + sixteen + [0, 0])
        self.refused([0] + small(2 ** 69) + sixteen)

    def test_as_many_groups_as_the_rows_fill(self):
        self.assertEqual(ask(head([0, 64, 5, 0])), [[64, 0, 5, 0]])
        self.assertEqual(ask(head([0, 65, 5, 0, 6, 0])), [[65, 0, 5, 0, 11, 0]])
        self.assertEqual(ask(head([0, 128, 1, 5, 0, 6, 0])), [[128, 0, 5, 0, 11, 0]])
        self.refused([0, 65, 5, 0])
        self.refused([0, 64, 5, 0, 6, 0])

    def test_a_number_that_could_be_shorter(self):
        self.refused([0, 129, 0, 0, 2, 2, 0])
        self.refused([0, 1, 128, 0, 2, 2, 0])
        self.refused([0, 1, 0, 130, 0, 2, 0])
        self.refused([0, 1, 0, 130, 128, 0, 2, 0])
        self.assertEqual(ask(head([0, 1, 127, 2, 2, 0])), [[1, 0, 127, 2]])
        self.assertEqual(ask(head([0, 1, 128, 1, 2, 2, 0])), [[1, 0, 128, 2]])

    def test_a_number_of_more_than_ten_bytes(self):
        self.refused([0] + [129] * 10 + [1, 0, 2, 2, 0])
        self.refused([0, 1] + [128] * 10 + [1, 2, 2, 0])
        self.refused([0, 1, 0] + [130] * 10 + [1, 2, 0])
        self.refused([0, 1, 0] + [255] * 16)

    def test_numbers_of_ten_bytes_are_read_whole(self):
        self.refused([0, 1, 0] + [130] + [128] * 8 + [1, 2, 0])
        self.refused([0, 1] + [128] * 9 + [1, 2, 2, 0])

    def test_an_early_end(self):
        block = [0, 65, 200, 1, 132, 1, 3, 2]
        for many in range(len(block)):
            self.refused(block[:many])
        self.refused([])

    def test_a_first_time_above_the_last(self):
        self.assertEqual(ask(head([0, 1] + small(TOP) + [2, 2, 0])), [[1, 0, TOP, 2]])
        self.refused([0, 1] + small(TOP + 1) + [2, 2, 0])
        self.assertEqual(ask(head([0, 65] + small(TOP - 5) + [0, 5, 0])), [[65, 0, TOP - 5, 0, TOP, 0]])
        self.refused([0, 65] + small(TOP - 5) + [0, 6, 0])

    def test_too_many_bytes_or_too_few_behind_the_head(self):
        block = packed([(k, k * k, k % 3) for k in range(100)])
        self.assertEqual(ask(head(block))[0][0], 100)
        self.refused(block + [0])
        self.refused(block[:-1])
        self.refused([0, 1, 0, 2])
        self.refused([0, 1, 0, 0, 0])
        self.refused([0, 65, 0, 2, 0, 2, 1, 1, 1])
        self.refused([0, 65, 0, 2, 0, 2, 1, 1, 1, 1, 1])


if __name__ == "__main__":
    unittest.main()
