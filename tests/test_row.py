"""Promise 7: row."""

import unittest

from helpers import NONE, TOP, ask, block_of, groups_of, head, made_rows, packed, row, small

FAR = 2 ** 63 - 1


class Row(unittest.TestCase):
    def test_by_hand(self):
        block = [2, 3, 100, 12, 60, 1, 1, 2, 0, 10, 14, 2, 0, 2, 1, 1]
        self.assertEqual(ask(row(0, block), row(1, block), row(2, block), row(3, block)),
                         [[0, 100, 5, 0], [0, 160, NONE, 0], [0, 220, 7, 1], [-2]])

    def test_each_row(self):
        for many in (1, 2, 3, 64, 65, 128, 129):
            found = made_rows(many)
            block = packed(found, 5)
            for i, told in enumerate(found):
                self.assertEqual(ask(row(i, block)), [[0] + list(told)])

    def test_rows_of_the_longest_block(self):
        found = [(k * k, 3 * k, k // 100) for k in range(1024)]
        block = packed(found)
        for i in (0, 1, 63, 64, 127, 128, 511, 959, 960, 1022, 1023):
            self.assertEqual(ask(row(i, block)), [[0] + list(found[i])])
        self.assertEqual(ask(row(1024, block)), [[-2]])

    def test_the_ends_of_the_ranges(self):
        block = packed([(0, -TOP, 0), (TOP, TOP, 255)], 63)
        self.assertEqual(ask(row(0, block), row(1, block)), [[0, 0, -TOP, 0], [0, TOP, TOP, 255]])


class Refused(unittest.TestCase):
    def test_below_0_first_of_all(self):
        for block in (packed(made_rows(3)), [], [64], [0, 1, 0, 1, 9], [0, 1, 0, 0]):
            self.assertEqual(ask(row(-1, block), row(-64, block), row(-2 ** 63, block)), [[-1]] * 3)

    def test_the_head_ahead_of_too_few_rows(self):
        good = packed([(5, 6, 7)])
        self.assertEqual(ask(row(0, good), row(1, good)), [[0, 5, 6, 7], [-2]])
        for block in ([], [64] + good[1:], [0, 0], good + [0], good[:-1], [0, 129, 0, 0, 2, 2, 0],
                      [0] + [129] * 10 + [1, 0, 2, 2, 0], [0, 1] + small(TOP + 1) + [2, 2, 0]):
            self.assertEqual(ask(head(block), row(0, block), row(1, block), row(FAR, block)), [[-3]] * 4)

    def test_just_as_many_as_the_head_tells(self):
        for many in (1, 2, 63, 64, 65, 128, 1000):
            block = packed([(k, k, 1) for k in range(many)])
            self.assertEqual(ask(row(many - 1, block), row(many, block), row(many + 1, block), row(FAR, block)),
                             [[0, many - 1, many - 1, 1], [-2], [-2], [-2]])

    def test_too_few_rows_ahead_of_the_groups(self):
        for block in ([0, 1, 0, 1, 9], [0, 1, 0, 0]):
            self.assertEqual(ask(row(1, block), row(FAR, block), row(0, block)), [[-2], [-2], [-3]])

    def test_its_own_group(self):
        for told in ([], [2], [2, 0, 0], [0, 1, 4, 0], [0, 0] + small(2 * TOP + 2) + [0], [1, 1, 0], [2, 1, 0, 1]):
            self.assertEqual(ask(row(0, block_of(1, [(0, told)]))), [[-3]], told)
        # All of it is looked at: a fault behind the row and one ahead of it.
        self.assertEqual(ask(row(0, block_of(2, [(0, [0, 2, 2, 5, 1, 5, 1])]))), [[-3]])
        self.assertEqual(ask(row(1, block_of(3, [(0, [5, 22, 2, 0])]))), [[-3]])
        self.assertEqual(ask(row(0, block_of(2, [(TOP, [1, 2, 0])]))), [[-3]])

    def test_other_groups_are_not_looked_at(self):
        found = [(k, NONE, 7) for k in range(200)]
        groups = groups_of(packed(found))
        for bad in range(4):
            for told in ([], [255, 255], groups[bad][1] + [0], groups[bad][1][:-1]):
                block = block_of(200, groups[:bad] + [(groups[bad][0], told)] + groups[bad + 1:])
                for i in (0, 63, 64, 127, 128, 191, 192, 199):
                    wanted = [-3] if i // 64 == bad else [0, i, NONE, 7]
                    self.assertEqual(ask(row(i, block)), [wanted])

    def test_order_between_groups_is_not_looked_at(self):
        block = block_of(65, [(0, [10, 123, 2, 0]), (5, [2, 0])])
        self.assertEqual(ask(row(63, block), row(64, block)), [[0, 630, NONE, 0], [0, 5, NONE, 0]])


if __name__ == "__main__":
    unittest.main()
