"""Promise 6: rows, of what is a block."""

import unittest

from helpers import NONE, TOP, Unpacker, ask, block_of, flat, group_of, made_numbers, made_rows, packed, rows


class ComeBack(unittest.TestCase):
    def comes_back(self, found, c=0):
        self.assertEqual(ask(rows(packed(found, c))), [[len(found), c] + flat(found)])

    def way(self, way, values):
        block = packed([(0, value, 0) for value in values])
        unpacker = Unpacker(block)
        unpacker.block()
        self.assertEqual(unpacker.ways, [way])
        self.comes_back([(0, value, 0) for value in values])

    def test_bytes_written_by_hand(self):
        self.assertEqual(ask(rows([5, 1, 232, 7, 4, 0, 0, 14, 0])), [[1, 5, 1000, 7, 0]])
        self.assertEqual(ask(rows([0, 2, 10, 6, 3, 0, 0, 1, 2, 0])), [[2, 0, 10, -1, 0, 13, 1, 0]])
        self.assertEqual(ask(rows([2, 3, 100, 12, 60, 1, 1, 2, 0, 10, 14, 2, 0, 2, 1, 1])),
                         [[3, 2, 100, 5, 0, 160, NONE, 0, 220, 7, 1]])
        self.assertEqual(ask(rows([0, 65, 0, 4, 192, 12, 4, 25, 123, 2, 0, 0, 0, 8, 0])),
                         [[65, 0] + flat((25 * k, NONE, 0) for k in range(64)) + [1600, 4, 0]])

    def test_so_many_rows(self):
        for many in (1, 2, 3, 4, 7, 8, 9, 63, 64, 65, 66, 127, 128, 129, 1023, 1024):
            self.comes_back(made_rows(many), many % 64)

    def test_each_channel(self):
        for c in range(64):
            self.comes_back([(c, c, c)], c)

    def test_none_some_and_all_are_none(self):
        for many in (1, 2, 7, 8, 9, 16, 17, 63, 64):
            self.comes_back([(k, 5 * k, 0) for k in range(many)])
            self.comes_back([(k, NONE, 0) for k in range(many)])
            for one in range(many):
                self.comes_back([(k, NONE if k == one else k, 0) for k in range(many)])
                self.comes_back([(k, k if k == one else NONE, 0) for k in range(many)])

    def test_groups_of_other_nones_each(self):
        found = [(k, [NONE, k, NONE if k % 2 else 7][k // 64], 0) for k in range(192)]
        self.comes_back(found)

    def test_way_0(self):
        for values in ([0], [-1], [TOP], [-TOP], [5, -3, 40, 0], [TOP, -TOP], [63, -64]):
            self.way(0, values)

    def test_way_1(self):
        for values in ([1000, 1001], [1000, 999, 1040], [TOP, TOP - 1], [-TOP, 1 - TOP], [64, 64]):
            self.way(1, values)

    def test_way_2(self):
        for values in ([0, 1000, 2000], [TOP - 2000, TOP - 1000, TOP], [2000 - TOP, 1000 - TOP, -TOP],
                       [10 ** 6 * k - k // 5 for k in range(64)]):
            self.way(2, values)

    def test_way_2_over_the_whole_range(self):
        self.way(2, [-TOP + k * (TOP // 32) for k in range(64)])

    def test_way_3(self):
        for values in ([1000] * 3, [TOP] * 64, [-TOP] * 64, [500, 501] * 32, [-TOP, TOP] * 32, [-TOP, TOP - 1] * 32,
                       [0, 1, 0, 1, 1, 0, 0, 1], [-2, 1, 0, -1, 1]):
            self.way(3, values)

    def test_way_3_of_each_width(self):
        source = made_numbers(3)
        for width in range(64):
            values = [(next(source) ** 3) % 2 ** width - TOP for _ in range(62)] + [-TOP, 2 ** width - 1 - TOP]
            self.way(3, values)

    def test_the_ends_of_the_times(self):
        for times in ([0], [TOP], [0, 0], [0, TOP], [TOP, TOP], [0, 0, TOP], [0, TOP, TOP], [0, 1, TOP], [0] * 64,
                      [TOP] * 65, [0] * 64 + [TOP], [0] * 65 + [TOP], [0] * 63 + [TOP] * 2):
            self.comes_back([(time, NONE, 0) for time in times])

    def test_steps_of_times(self):
        for steps in ([5] * 10, [0, 5, 5, 5, 0, 0], [1, 2, 3, 4], [4, 3, 2, 1, 0], [1, 1, 2, 2, 1, 1], [0, 2 ** 60, 0]):
            self.comes_back([(sum(steps[:k]), 1, 0) for k in range(len(steps) + 1)])

    def test_qualities(self):
        for qualities in ([0], [255], [0] * 64, [255] * 64, [9, 0] * 32, [0, 0, 1], [1, 0, 0], [3, 4, 3],
                          [k + 192 for k in range(64)], [1] * 65, [0] * 64 + [1], [1] * 64 + [0]):
            self.comes_back([(7, NONE, quality) for quality in qualities])

    def test_all_at_its_most(self):
        source = made_numbers(64)
        found = [((TOP // 127) * (k + next(source) % 2), TOP if next(source) % 2 else -TOP, k % 2) for k in range(64)]
        self.comes_back(found, 63)

    def test_the_same_time_in_two_groups(self):
        self.comes_back([(0, k, 0) for k in range(40)] + [(9, k, 0) for k in range(60)])


class AllShortGroups(unittest.TestCase):
    """Every list of so many bytes from 0 to 4: just those are groups that some rows are packed into."""

    def taken(self, many, size):
        found = [[]]
        for _ in range(size):
            found = [told + [byte] for told in found for byte in range(5)]
        taken = []
        for start in range(0, len(found), 1000):
            part = found[start:start + 1000]
            answers = ask(*[rows(block_of(many, [(0, told)])) for told in part])
            taken += [(told, answer[2:]) for told, answer in zip(part, answers) if answer != [-3]]
        return taken

    def test_of_one_row(self):
        told = {}
        for value in (NONE, -2, -1, 0, 1, 2):
            for quality in range(5):
                told[tuple(group_of([(0, value, quality)]))] = [0, value, quality]
        for size in range(7):
            taken = self.taken(1, size)
            expected = {key: told[key] for key in told if len(key) == size}
            self.assertEqual({tuple(key): found for key, found in taken}, expected)

    def test_of_two_rows(self):
        told = {}
        for step in range(5):
            for value in (NONE, -2, -1, 0, 1, 2):
                for other in (NONE, -2, -1, 0, 1, 2):
                    for quality in range(5):
                        found = [(0, value, quality), (step, other, quality)]
                        told[tuple(group_of(found))] = flat(found)
        for size in range(7):
            taken = self.taken(2, size)
            expected = {key: told[key] for key in told if len(key) == size}
            self.assertEqual({tuple(key): found for key, found in taken}, expected)

    def test_of_three_rows(self):
        told = {}
        for step in range(5):
            for other in range(7):
                found = [(0, NONE, 0), (step, NONE, 0), (step + other, NONE, 0)]
                told[tuple(group_of(found))] = flat(found)
        told = {key: told[key] for key in told if max(key) <= 4}
        for size in range(5):
            taken = self.taken(3, size)
            expected = {key: told[key] for key in told if len(key) == size}
            self.assertEqual({tuple(key): found for key, found in taken}, expected)


if __name__ == "__main__":
    unittest.main()
