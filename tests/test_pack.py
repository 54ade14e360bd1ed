"""Promise 4: pack."""

import unittest

from helpers import NONE, TOP, Unpacker, add, ask, group_of, made_numbers, made_rows, pack, packed, waits


def values_told(values):
    """What stands for the values of as many rows, all at time 0, none of them none."""
    before = [[], [0]][len(values) - 1] if len(values) < 3 else [0, 2 * (len(values) - 2) - 1]
    group = group_of([(0, value, 0) for value in values])
    assert group[:len(before) + 1] == before + [0] and group[-1] == 0, group
    return group[len(before) + 1:-1]


def times_told(times):
    group = group_of([(time, NONE, 0) for time in times])
    assert group[-2:] == [2, 0], group
    return group[:-2]


class Refused(unittest.TestCase):
    def test_outside_the_range(self):
        self.assertEqual(ask(pack(-1), pack(64), pack(-2 ** 63), pack(2 ** 63 - 1)), [[-1]] * 4)

    def test_none_waits(self):
        self.assertEqual(ask(add(1, 1), pack(0), pack(63), waits(1)), [[1], [-2], [-2], [1]])

    def test_none_waits_any_more(self):
        found = ask(add(1, 9), add(2, 9), pack(1), waits(1), waits(2), pack(1), add(1, 0))
        self.assertEqual(found[3:], [[0], [1], [-2], [1]])


class Blocks(unittest.TestCase):
    def test_one_row(self):
        self.assertEqual(packed([(1000, 7, 0)], 5), [5, 1, 232, 7, 4, 0, 0, 14, 0])

    def test_one_row_without_a_value(self):
        self.assertEqual(packed([(0, NONE, 0)], 63), [63, 1, 0, 2, 2, 0])

    def test_two_rows(self):
        self.assertEqual(packed([(10, -1, 0), (13, 1, 0)]), [0, 2, 10, 6, 3, 0, 0, 1, 2, 0])

    def test_three_rows(self):
        rows = [(100, 5, 0), (160, NONE, 0), (220, 7, 1)]
        self.assertEqual(packed(rows, 2), [2, 3, 100, 12, 60, 1, 1, 2, 0, 10, 14, 2, 0, 2, 1, 1])

    def test_64_rows(self):
        rows = [(100 + 10 * k, NONE, 0) for k in range(64)]
        self.assertEqual(packed(rows), [0, 64, 100, 4, 10, 123, 2, 0])

    def test_65_rows(self):
        rows = [(100 + 10 * k, NONE, 0) for k in range(65)]
        self.assertEqual(packed(rows), [0, 65, 100, 4, 128, 5, 2, 10, 123, 2, 0, 2, 0])

    def test_129_rows(self):
        rows = [(100 + k, NONE, 0) for k in range(129)]
        self.assertEqual(packed(rows), [0, 129, 1, 100, 4, 64, 4, 64, 2, 1, 123, 2, 0, 1, 123, 2, 0, 2, 0])

    def test_1024_rows(self):
        rows = [(10 * k, NONE, 0) for k in range(1024)]
        self.assertEqual(packed(rows), [0, 128, 8, 0, 4] + [128, 5, 4] * 15 + [10, 123, 2, 0] * 16)

    def test_a_group_of_many_bytes(self):
        rows = [(0, NONE, k % 2) for k in range(64)]
        runs = [0, 1, 1, 1] * 32
        self.assertEqual(packed(rows), [0, 64, 0, 132, 1, 0, 123, 2, 64] + runs)

    def test_groups_are_packed_each_by_itself(self):
        rows = [(k, 1000, 0) for k in range(64)] + [(64 + 2 * k, NONE, 9) for k in range(3)]
        self.assertEqual(packed(rows), [0, 67, 0, 8, 64, 6, 1, 123, 0, 3, 208, 15, 0, 0, 2, 1, 2, 1, 9, 3])

    def test_first_times_at_the_end_of_the_range(self):
        rows = [(TOP, NONE, 0)] * 65
        self.assertEqual(packed(rows), [0, 65] + [128] * 8 + [64, 4, 0, 2, 0, 123, 2, 0, 2, 0])

    def test_the_same_rows_the_same_bytes(self):
        rows = [(k * k, 3 * k, k % 4) for k in range(100)]
        adds = [add(7, *row) for row in rows]
        found = ask(*adds, pack(7), *adds, pack(7))
        self.assertEqual(found[100], found[-1])

    def test_rows_come_back(self):
        for many in (1, 2, 3, 7, 8, 9, 63, 64, 65, 127, 128, 129, 1000, 1024):
            rows = made_rows(many)
            self.assertEqual(Unpacker(packed(rows, many % 64)).block(), (many % 64, rows))

    def test_the_way_is_the_lowest_of_the_shortest(self):
        for size in (1, 2, 30, 100, 5000, 2 ** 40, 2 ** 63):
            source = made_numbers(size)
            for many in (1, 2, 3, 4, 5, 20, 64):
                values = [next(source) ** 2 % size - size // 3 for _ in range(many)]
                values = [min(max(value, -TOP), TOP) for value in values]
                told = values_told(values)
                lengths = way_lengths(values)
                self.assertEqual(len(told), min(lengths))
                self.assertEqual(told[0], lengths.index(min(lengths)))


def way_lengths(values):
    """How long each of the ways 0 to 3 is, counted without telling a byte."""
    def length(number):
        told = 2 * number if number >= 0 else -2 * number - 1
        return max(1, -(-told.bit_length() // 7))
    steps = [b - a for a, b in zip(values, values[1:])]
    seconds = [b - a for a, b in zip(steps, steps[1:])]
    width = (max(values) - min(values)).bit_length()
    return [1 + sum(map(length, values)),
            1 + sum(map(length, values[:1] + steps)),
            1 + sum(map(length, values[:1] + steps[:1] + seconds)),
            1 + length(min(values)) + 1 + -(-width * len(values) // 8)]


class Times(unittest.TestCase):
    def test_small_numbers(self):
        for step, told in ((0, [0]), (1, [1]), (127, [127]), (128, [128, 1]), (129, [129, 1]), (16383, [255, 127]),
                           (16384, [128, 128, 1]), (TOP - 1, [255] * 8 + [63]), (TOP, [128] * 8 + [64])):
            self.assertEqual(times_told([0, step]), told)

    def test_of_one_row_nothing(self):
        self.assertEqual(times_told([12345]), [])

    def test_steady(self):
        self.assertEqual(times_told([5, 15, 25]), [10, 1])
        self.assertEqual(times_told([5, 15, 25, 35]), [10, 3])
        self.assertEqual(times_told([5 + 10 * k for k in range(64)]), [10, 123])
        self.assertEqual(times_told([7] * 64), [0, 123])

    def test_runs_of_noughts(self):
        self.assertEqual(times_told([0, 1, 2, 3, 5, 7, 9, 9]), [1, 3, 4, 3, 6])
        self.assertEqual(times_told([0, 1, 3, 5, 8]), [1, 4, 1, 4])
        self.assertEqual(times_told([0, 1, 2, 4, 6, 8, 10]), [1, 1, 4, 5])

    def test_steps_of_steps_below_nought(self):
        self.assertEqual(times_told([0, 2, 3]), [2, 2])
        self.assertEqual(times_told([0, 2, 2]), [2, 6])
        self.assertEqual(times_told([0, 32, 32]), [32, 126])
        self.assertEqual(times_told([0, 33, 33]), [33, 130, 1])

    def test_steps_of_steps_above_nought(self):
        self.assertEqual(times_told([0, 0, 31]), [0, 124])
        self.assertEqual(times_told([0, 0, 32]), [0, 128, 1])

    def test_the_ends_of_the_range(self):
        self.assertEqual(times_told([0, TOP, TOP]), [128] * 8 + [64] + [254] + [255] * 8 + [1])
        self.assertEqual(times_told([0, 0, TOP]), [0] + [128] * 9 + [2])


class Nones(unittest.TestCase):
    def test_none_is_none(self):
        self.assertEqual(group_of([(0, 1, 0), (0, 2, 0)]), [0, 0, 0, 2, 4, 0])

    def test_all_are(self):
        self.assertEqual(group_of([(0, NONE, 0), (0, NONE, 4)]), [0, 2, 2, 0, 1, 4, 1])

    def test_the_first_in_the_lowest_bit(self):
        self.assertEqual(group_of([(0, NONE, 0), (0, 2, 0)]), [0, 1, 1, 0, 4, 0])
        self.assertEqual(group_of([(0, 2, 0), (0, NONE, 0)]), [0, 1, 2, 0, 4, 0])

    def test_whole_bytes(self):
        eight = [(0, 3, 0)] + [(0, NONE, 0)] * 7
        self.assertEqual(group_of(eight), [0, 11, 1, 254, 0, 6, 0])
        nine = [(0, NONE, 0)] * 8 + [(0, 3, 0)]
        self.assertEqual(group_of(nine), [0, 13, 1, 255, 0, 0, 6, 0])
        ninth = [(0, 0, 0)] * 8 + [(0, NONE, 0)]
        self.assertEqual(group_of(ninth), [0, 13, 1, 0, 1, 3, 0, 0, 0])
        last = [(0, 0, 0)] * 63 + [(0, NONE, 0)]
        self.assertEqual(group_of(last), [0, 123, 1] + [0] * 7 + [128, 3, 0, 0, 0])

    def test_steps_go_over_what_is_none(self):
        rows = [(0, 1000, 0), (0, NONE, 0), (0, 1001, 0)]
        self.assertEqual(group_of(rows), [0, 1, 1, 2, 1, 208, 15, 2, 0])


class Values(unittest.TestCase):
    def test_way_0(self):
        self.assertEqual(values_told([0]), [0, 0])
        self.assertEqual(values_told([-1]), [0, 1])
        self.assertEqual(values_told([63]), [0, 126])
        self.assertEqual(values_told([-64]), [0, 127])
        self.assertEqual(values_told([64]), [0, 128, 1])
        self.assertEqual(values_told([-65]), [0, 129, 1])
        self.assertEqual(values_told([5, -3, 40, 0]), [0, 10, 5, 80, 0])

    def test_the_ends_of_the_range(self):
        self.assertEqual(values_told([TOP]), [0] + [128] * 9 + [1])
        self.assertEqual(values_told([-TOP]), [0] + [255] * 8 + [127])
        self.assertEqual(values_told([TOP, -TOP]), [0] + [128] * 9 + [1] + [255] * 8 + [127])

    def test_way_1(self):
        self.assertEqual(values_told([1000, 1001]), [1, 208, 15, 2])
        self.assertEqual(values_told([1000, 999, 1040]), [1, 208, 15, 1, 82])

    def test_way_2(self):
        self.assertEqual(values_told([0, 1000, 2000]), [2, 0, 208, 15, 0])
        self.assertEqual(values_told([0, 1000, 2000, 2999]), [2, 0, 208, 15, 0, 1])

    def test_way_3(self):
        self.assertEqual(values_told([0, 1, 0, 1, 1, 0, 0, 1]), [3, 0, 1, 0b10011010])
        self.assertEqual(values_told([-2, 1, 0, -1, 1]), [3, 3, 2, 0b01101100, 0b11])
        self.assertEqual(values_told([-1, 6, 3, 0, -1, 5]), [3, 1, 3, 56, 3, 3])

    def test_way_3_of_no_bits(self):
        self.assertEqual(values_told([1000] * 3), [3, 208, 15, 0])
        self.assertEqual(values_told([-TOP] * 64), [3] + [255] * 8 + [127, 0])
        self.assertEqual(values_told([TOP] * 3), [3] + [128] * 9 + [1, 0])

    def test_way_3_of_one_bit(self):
        self.assertEqual(values_told([500, 501] * 32), [3, 232, 7, 1] + [0b10101010] * 8)

    def test_way_3_of_64_bits(self):
        told = [3] + [255] * 8 + [127, 64] + ([0] * 8 + [0] * 7 + [128]) * 32
        self.assertEqual(values_told([-TOP, TOP] * 32), told)

    def test_way_3_of_63_bits(self):
        told = [3] + [255] * 8 + [127, 63]
        whole = sum((2 ** 63 - 1) << (63 * k) for k in range(1, 64, 2))
        told += list(whole.to_bytes(63 * 8, "little"))
        self.assertEqual(values_told([-TOP, TOP - 1] * 32), told)

    def test_of_several_the_lowest(self):
        for values, told in (((0, 0), [0, 0, 0]),
                             ((0, 1), [0, 0, 2]),
                             ((0, 0, 1), [0, 0, 0, 2]),
                             ((-1, 63, 127), [0, 1, 126, 254, 1]),
                             ((64, -1, 64), [0, 128, 1, 1, 128, 1]),
                             ((64, 64), [1, 128, 1, 0]),
                             ((0, 1, 64), [1, 0, 2, 126]),
                             ((1000, 1001, 1003, 1004), [1, 208, 15, 2, 4, 2]),
                             ((64, 0, 64, 128), [2, 128, 1, 127, 128, 2, 0])):
            self.assertEqual(values_told(list(values)), told)
            lengths = way_lengths(list(values))
            self.assertGreater(lengths.count(min(lengths)), 1)


class Qualities(unittest.TestCase):
    def told(self, qualities):
        group = group_of([(0, NONE, quality) for quality in qualities])
        return group[group.index(2) + 1:]

    def test_all_nought(self):
        self.assertEqual(self.told([0] * 64), [0])
        self.assertEqual(self.told([0]), [0])

    def test_one_run(self):
        self.assertEqual(self.told([255] * 64), [1, 255, 64])
        self.assertEqual(self.told([1]), [1, 1, 1])

    def test_runs(self):
        self.assertEqual(self.told([5, 5, 0, 7]), [3, 5, 2, 0, 1, 7, 1])
        self.assertEqual(self.told([0, 0, 1]), [2, 0, 2, 1, 1])
        self.assertEqual(self.told([1, 0, 0]), [2, 1, 1, 0, 2])
        self.assertEqual(self.told([3, 4, 3]), [3, 3, 1, 4, 1, 3, 1])

    def test_64_runs(self):
        self.assertEqual(self.told([9, 0] * 32), [64] + [9, 1, 0, 1] * 32)


if __name__ == "__main__":
    unittest.main()
