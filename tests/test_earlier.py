"""Promise 8: earlier."""

import unittest

from helpers import NONE, TOP, ask, block_of, earlier, groups_of, head, made_rows, packed, small


class Earlier(unittest.TestCase):
    def counted(self, found, times):
        block = packed(found)
        for t in times:
            self.assertEqual(ask(earlier(t, block)), [[sum(each[0] < t for each in found)]], t)

    def test_of_one_row(self):
        block = packed([(100, 5, 0)])
        self.assertEqual(ask(*[earlier(t, block) for t in (0, 99, 100, 101, TOP)]), [[0], [0], [0], [1], [1]])

    def test_each_time_of_one_group(self):
        self.counted([(time, 1, 0) for time in (3, 3, 5, 8, 8, 8, 20)], range(25))

    def test_before_at_and_behind_the_first_times(self):
        found = [(1000 + 10 * k, k, 0) for k in range(200)]
        times = [found[k][0] + more for k in (0, 1, 63, 64, 65, 127, 128, 191, 192, 199) for more in (-1, 0, 1)]
        self.counted(found, [0, 1, 999] + times + [5000, TOP])

    def test_times_that_stand_in_several_groups(self):
        self.counted([(5, k, 0) for k in range(200)], (0, 4, 5, 6, TOP))
        found = [(k // 50, k, 0) for k in range(300)]
        self.counted(found, range(8))
        self.counted([(0 if k < 30 else 9, k, 0) for k in range(300)], (0, 1, 8, 9, 10))
        self.counted([(9 if k < 64 else 12, k, 0) for k in range(300)], range(8, 14))

    def test_made_rows(self):
        found = made_rows(500)
        self.counted(found, [found[k][0] + more for k in range(0, 500, 13) for more in (-1, 0, 1)])

    def test_1024_rows(self):
        times = (0, 1, 2, 127, 128, 129, 1920, 1921, 2045, 2046, 2047, TOP)
        self.counted([(2 * k, NONE, 0) for k in range(1024)], times)

    def test_the_ends_of_the_range(self):
        self.counted([(0, 1, 0), (TOP, 1, 0)], (0, 1, TOP - 1, TOP))
        self.counted([(0, 1, 0)] * 70 + [(TOP, 1, 0)] * 70, (0, 1, TOP - 1, TOP))


class Refused(unittest.TestCase):
    def test_outside_the_range_first_of_all(self):
        for block in (packed([(5, 6, 7)]), [], [64], [0, 1, 0, 1, 9]):
            outside = (-1, TOP + 1, -2 ** 63, 2 ** 63 - 1)
            self.assertEqual(ask(*[earlier(t, block) for t in outside]), [[-1]] * 4)

    def test_the_head(self):
        good = packed([(5, 6, 7)])
        for block in ([], [64] + good[1:], [0, 0], good + [0], good[:-1], [0, 129, 0, 0, 2, 2, 0],
                      [0] + [129] * 10 + [1, 0, 2, 2, 0], [0, 1] + small(TOP + 1) + [2, 2, 0]):
            self.assertEqual(ask(head(block), earlier(0, block), earlier(6, block), earlier(TOP, block)), [[-3]] * 4)

    def test_no_group_is_looked_at(self):
        for told in ([], [255], [2, 0, 0]):
            block = block_of(1, [(7, told)])
            self.assertEqual(ask(earlier(0, block), earlier(7, block), earlier(8, block), earlier(TOP, block)),
                             [[0], [0], [-3], [-3]])

    def test_the_one_group_that_is_looked_at(self):
        groups = groups_of(packed([(10 + k, NONE, 7) for k in range(200)]))
        for bad in range(4):
            for told in ([], [255, 255], groups[bad][1] + [0], groups[bad][1][:-1]):
                block = block_of(200, groups[:bad] + [(groups[bad][0], told)] + groups[bad + 1:])
                for t in (0, 10, 11, 73, 74, 75, 138, 139, 202, 203, 209, 210, 1000, TOP):
                    count = min(max(t - 10, 0), 200)
                    wanted = -3 if count > 0 and (count - 1) // 64 == bad else count
                    self.assertEqual(ask(earlier(t, block)), [[wanted]], (bad, t))

    def test_all_of_that_group(self):
        # Times that go back, the range of times, and qualities: behind the rows that are earlier.
        for many, first, told in ((3, 0, [5, 22, 2, 0]), (2, 0, [5, 2, 1, 0, 2]), (2, TOP - 4, [5, 2, 0])):
            block = block_of(many, [(first, told)])
            self.assertEqual(ask(earlier(first + 1, block)), [[-3]])

    def test_order_between_groups_is_not_looked_at(self):
        block = block_of(65, [(0, [10, 123, 2, 0]), (5, [2, 0])])
        self.assertEqual(ask(earlier(5, block), earlier(6, block)), [[1], [65]])


if __name__ == "__main__":
    unittest.main()
