"""Promise 9: from, which the interface calls from_."""

import unittest

from helpers import NONE, TOP, ask, block_of, flat, from_, groups_of, head, made_rows, packed, small


class From(unittest.TestCase):
    def given(self, found, times, mosts):
        block = packed(found, 3)
        for t in times:
            for most in mosts:
                told = [each for each in found if each[0] >= t][:most]
                self.assertEqual(ask(from_(t, most, block)), [[len(told)] + flat(told)], (t, most))

    def test_by_hand(self):
        block = [2, 3, 100, 12, 60, 1, 1, 2, 0, 10, 14, 2, 0, 2, 1, 1]
        self.assertEqual(ask(from_(0, 2, block), from_(101, 1024, block), from_(220, 1, block), from_(221, 1, block)),
                         [[2, 100, 5, 0, 160, NONE, 0], [2, 160, NONE, 0, 220, 7, 1], [1, 220, 7, 1], [0]])

    def test_times_and_mosts(self):
        found = [(time, time - 5, time % 2) for time in (3, 3, 5, 8, 8, 8, 20)]
        self.given(found, list(range(22)) + [TOP], (0, 1, 2, 3, 6, 7, 8, 1024))

    def test_over_groups(self):
        found = [(10 * k, k, 0) for k in range(200)]
        times = [found[k][0] + more for k in (1, 63, 64, 65, 128, 199) for more in (-1, 0, 1)]
        self.given(found, [0] + times + [5000, TOP], (0, 1, 63, 64, 65, 199, 200, 201, 1024))

    def test_the_same_time_in_several_groups(self):
        self.given([(5, k, 0) for k in range(200)], (0, 4, 5, 6), (0, 1, 100, 1024))
        self.given([(k // 50, k, 0) for k in range(300)], range(8), (1, 60, 1024))

    def test_made_rows(self):
        found = made_rows(500)
        self.given(found, [found[k][0] for k in range(0, 500, 50)], (0, 1, 70, 500, 1024))

    def test_1024_rows(self):
        found = [(2 * k, NONE, 0) for k in range(1024)]
        self.given(found, (0, 1, 2, 2045, 2046, 2047), (0, 1, 1023, 1024))

    def test_the_ends_of_the_range(self):
        self.given([(0, -TOP, 0), (TOP, TOP, 255)], (0, 1, TOP - 1, TOP), (0, 1, 2, 1024))


class Refused(unittest.TestCase):
    def test_outside_the_ranges_first_of_all(self):
        for block in (packed([(5, 6, 7)]), [], [64], [0, 1, 0, 1, 9]):
            for t in (-1, TOP + 1, -2 ** 63, 2 ** 63 - 1):
                self.assertEqual(ask(from_(t, 0, block), from_(t, 1024, block)), [[-1]] * 2)
            for most in (-1, 1025, -2 ** 63, 2 ** 63 - 1):
                self.assertEqual(ask(from_(0, most, block), from_(TOP, most, block)), [[-1]] * 2)

    def test_the_head(self):
        good = packed([(5, 6, 7)])
        for block in ([], [64] + good[1:], [0, 0], good + [0], good[:-1], [0, 129, 0, 0, 2, 2, 0],
                      [0] + [129] * 10 + [1, 0, 2, 2, 0], [0, 1] + small(TOP + 1) + [2, 2, 0]):
            self.assertEqual(ask(head(block), from_(0, 1, block), from_(TOP, 0, block)), [[-3]] * 3)

    def test_any_group_that_is_not_one(self):
        groups = groups_of(packed([(10 + k, NONE, 7) for k in range(200)]))
        for bad in range(4):
            for told in ([], [255, 255], groups[bad][1] + [0], groups[bad][1][:-1]):
                block = block_of(200, groups[:bad] + [(groups[bad][0], told)] + groups[bad + 1:])
                asked = [from_(t, most, block) for t in (0, 10, 100, 209, TOP) for most in (0, 1, 1024)]
                self.assertEqual(ask(*asked), [[-3]] * 15)

    def test_groups_that_are_not_in_order(self):
        block = block_of(65, [(0, [10, 123, 2, 0]), (629, [2, 0])])
        self.assertEqual(ask(from_(0, 1, block), from_(TOP, 0, block)), [[-3]] * 2)


if __name__ == "__main__":
    unittest.main()
