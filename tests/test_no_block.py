"""Promise 6: rows, of what is no block: bytes that aren't just what some rows are packed into."""

import unittest

from helpers import NONE, TOP, Unpacker, ask, block_of, flat, fold, groups_of, head, made_rows, packed, rows
from helpers import side_by_side, small

# What stands behind the times of rows without a value, all of quality 0.
BARE = [2, 0]


class NoBlock(unittest.TestCase):
    """The head of each is one; a neighbour that is a block is told beside it."""

    def taken(self, many, told, first=0):
        block = block_of(many, [(first, told)])
        answer = ask(rows(block))[0]
        self.assertEqual(answer[:2], [many, 0], told)
        found = [tuple(answer[k:k + 3]) for k in range(2, len(answer), 3)]
        self.assertEqual(packed(found), block)
        return found

    def refused(self, many, told, first=0):
        self.refused_block(block_of(many, [(first, told)]))

    def refused_block(self, block):
        found = ask(head(block), rows(block))
        self.assertNotEqual(found[0], [-3], block)
        self.assertEqual(found[1], [-3], block)

    def values_taken(self, many, told):
        return [value for time, value, quality in self.taken(many, self.times(many) + [0] + told + [0])]

    def values_refused(self, many, told):
        self.refused(many, self.times(many) + [0] + told + [0])

    def times(self, many):
        return [[], [0]][many - 1] if many < 3 else [0, 2 * (many - 2) - 1]


class Ways(NoBlock):
    def test_a_way_that_is_not_the_shortest(self):
        self.assertEqual(self.values_taken(2, [1, 208, 15, 2]), [1000, 1001])
        self.values_refused(2, [0, 208, 15, 210, 15])
        self.values_refused(2, [3, 208, 15, 1, 2])
        self.assertEqual(self.values_taken(3, [2, 0, 208, 15, 0]), [0, 1000, 2000])
        self.values_refused(3, [0, 0, 208, 15, 160, 31])
        self.values_refused(3, [1, 0, 208, 15, 208, 15])
        self.values_refused(3, [3, 0, 11] + side_by_side([0, 1000, 2000], 11))
        self.assertEqual(self.values_taken(3, [3, 208, 15, 0]), [1000] * 3)
        self.values_refused(3, [0] + [208, 15] * 3)
        self.values_refused(3, [1, 208, 15, 0, 0])
        self.values_refused(3, [2, 208, 15, 0, 0])

    def test_a_way_that_is_not_the_lowest_of_the_shortest(self):
        self.assertEqual(self.values_taken(2, [0, 0, 0]), [0, 0])
        self.values_refused(2, [1, 0, 0])
        self.values_refused(2, [3, 0, 0])
        self.values_refused(3, [1, 0, 0, 2])
        self.values_refused(3, [2, 0, 0, 2])
        self.assertEqual(self.values_taken(4, [1, 208, 15, 2, 4, 2]), [1000, 1001, 1003, 1004])
        self.values_refused(4, [2, 208, 15, 2, 2, 1])
        self.values_refused(4, [3, 208, 15, 3] + side_by_side([0, 1, 3, 4], 3))
        self.assertEqual(self.values_taken(4, [2, 128, 1, 127, 128, 2, 0]), [64, 0, 64, 128])

    def test_ways_that_so_few_values_do_not_have(self):
        self.assertEqual(self.values_taken(1, [0, 14]), [7])
        self.values_refused(1, [1, 14])
        self.values_refused(1, [2, 14])
        self.values_refused(1, [3, 14, 0])
        self.assertEqual(self.values_taken(2, [1, 208, 15, 2]), [1000, 1001])
        self.values_refused(2, [2, 208, 15, 2])

    def test_ways_that_there_are_not(self):
        for way in range(4, 256):
            self.values_refused(1, [way, 14])
            self.values_refused(2, [way, 208, 15, 2])


class Way3(NoBlock):
    def test_a_width_greater_than_need_be(self):
        self.assertEqual(self.values_taken(64, [3, 232, 7, 1] + side_by_side([0, 1] * 32, 1)), [500, 501] * 32)
        self.values_refused(64, [3, 232, 7, 2] + side_by_side([0, 1] * 32, 2))
        self.assertEqual(self.values_taken(64, [3, 232, 7, 0]), [500] * 64)
        self.values_refused(64, [3, 232, 7, 1] + [0] * 8)

    def test_a_width_greater_than_any(self):
        for width in (64, 65, 72, 128, 255):
            self.values_refused(64, [3, 0, width] + [0] * (8 * width))
        self.values_refused(64, [3, 0, 255] + [0] * 2039 + [128])
        self.values_refused(64, [3, 0, 255])

    def test_a_least_that_is_not_the_least(self):
        told = [3, 232, 7, 2] + side_by_side([0, 1, 2, 1] * 16, 2)
        self.assertEqual(self.values_taken(64, told), [500, 501, 502, 501] * 16)
        # One less, and each one more above it: in as many bits.
        self.values_refused(64, [3, 230, 7, 2] + side_by_side([1, 2, 3, 2] * 16, 2))
        self.assertEqual(self.values_taken(3, [3, 208, 15, 0]), [1000] * 3)
        self.values_refused(3, [3, 206, 15, 1, 7])

    def test_bits_over(self):
        bits = [0b11011011, 0b10110110, 0b101]
        self.assertEqual(len(self.values_taken(19, [3, 232, 7, 1] + bits)), 19)
        for bit in range(3, 8):
            self.values_refused(19, [3, 232, 7, 1] + bits[:2] + [bits[2] + 2 ** bit])

    def test_too_few_and_too_many_bytes(self):
        bits = [0b10101010] * 8
        self.values_refused(64, [3, 232, 7, 1] + bits[:7])
        self.values_refused(64, [3, 232, 7, 1] + bits + [0])
        self.values_refused(64, [3, 232, 7, 1])
        self.values_refused(64, [3, 232, 7])
        self.values_refused(64, [3])


class Nones(NoBlock):
    def test_marks_where_none_is_none(self):
        self.taken(2, [0, 0, 0, 2, 4, 0])
        self.refused(2, [0, 1, 0, 0, 2, 4, 0])

    def test_marks_where_all_are_none(self):
        self.taken(2, [0, 2, 0])
        self.refused(2, [0, 1, 3, 0])
        self.refused(1, [1, 1, 0])
        self.refused(64, [0, 123, 1] + [255] * 8 + [0])

    def test_bits_over(self):
        self.assertEqual(self.taken(2, [0, 1, 1, 0, 4, 0]), [(0, NONE, 0), (0, 2, 0)])
        for bit in range(2, 8):
            self.refused(2, [0, 1, 1 + 2 ** bit, 0, 4, 0])
        self.taken(9, [0, 13, 1, 255, 0, 0, 6, 0])
        self.refused(9, [0, 13, 1, 255, 2, 0, 6, 0])

    def test_marks_that_there_are_not(self):
        for mark in range(3, 256):
            self.refused(1, [mark, 0])
            self.refused(1, [mark, 0, 14, 0])

    def test_values_where_all_are_none(self):
        self.refused(1, [2, 0, 14, 0])
        self.refused(2, [0, 2, 0, 4, 0])

    def test_no_values_where_some_are(self):
        self.refused(1, [0, 0])
        self.refused(1, [0])
        self.refused(2, [0, 1, 1, 0])
        self.refused(2, [0, 1])


class Times(NoBlock):
    def times_taken(self, many, told, first=0):
        return [time for time, value, quality in self.taken(many, told + BARE, first)]

    def times_refused(self, many, told, first=0):
        self.refused(many, told + BARE, first)

    def test_a_run_of_noughts_told_in_two(self):
        self.assertEqual(self.times_taken(4, [10, 3]), [0, 10, 20, 30])
        self.times_refused(4, [10, 1, 1])
        self.assertEqual(self.times_taken(64, [10, 123])[-1], 630)
        self.times_refused(64, [10, 121, 1])
        self.times_refused(64, [10] + [1] * 62)

    def test_a_nought_told_by_itself(self):
        self.assertEqual(self.times_taken(3, [10, 1]), [0, 10, 20])
        self.times_refused(3, [10, 0])
        self.times_refused(4, [10, 0, 1])
        self.times_refused(4, [10, 1, 0])

    def test_too_many_and_too_few_by_the_noughts(self):
        self.assertEqual(self.times_taken(5, [10, 5]), [0, 10, 20, 30, 40])
        self.times_refused(5, [10, 7])
        self.times_refused(5, [10, 3])
        self.times_refused(5, [10, 4, 5])
        self.times_refused(5, [10] + small(2 ** 70 - 1))
        self.times_refused(64, [10, 125])
        self.times_refused(2, [10, 1])
        self.times_refused(1, [10])
        self.times_refused(1, [0])

    def test_too_many_and_too_few_steps(self):
        self.assertEqual(self.times_taken(4, [1, 4, 8]), [0, 1, 3, 7])
        self.times_refused(4, [1, 4])
        self.times_refused(4, [1, 4, 8, 4])
        self.times_refused(2, [])

    def test_a_time_above_the_last(self):
        self.assertEqual(self.times_taken(2, [5], TOP - 5), [TOP - 5, TOP])
        self.times_refused(2, [6], TOP - 5)
        self.assertEqual(self.times_taken(3, [1, 4], TOP - 3), [TOP - 3, TOP - 2, TOP])
        self.times_refused(3, [1, 4], TOP - 2)
        self.times_refused(3, [1, 1], TOP - 1)
        self.assertEqual(self.times_taken(2, small(TOP)), [0, TOP])
        self.times_refused(2, small(TOP + 1))
        self.times_refused(2, small(2 ** 69))
        self.times_refused(3, [0] + small(2 ** 69))

    def test_a_time_above_the_last_and_back(self):
        self.times_refused(3, [6] + small(2 * (2 * 12 - 1)), TOP - 5)

    def test_times_that_go_back(self):
        self.assertEqual(self.times_taken(3, [5, 2 * 9]), [0, 5, 5])
        self.times_refused(3, [5, 2 * 11])
        self.times_refused(3, [5, 2 * 11], 100)
        self.times_refused(4, [5, 2 * 11, 2 * 22], 100)
        self.times_refused(3, [0, 2], 100)

    def test_numbers_that_could_be_shorter(self):
        self.times_refused(2, [138, 0])
        self.times_refused(2, [138, 128, 0])
        self.times_refused(4, [10, 131, 0])
        self.times_refused(3, [10, 132, 0])


class Values(NoBlock):
    def test_out_of_the_range_by_way_0(self):
        self.assertEqual(self.values_taken(1, [0] + fold(TOP)), [TOP])
        self.assertEqual(self.values_taken(1, [0] + fold(-TOP)), [-TOP])
        for value in (TOP + 1, -TOP - 1, 2 ** 63, -2 ** 63 + 1, -2 ** 63 - 1, 2 ** 69 - 1, -2 ** 69):
            self.values_refused(1, [0] + fold(value))
            self.values_refused(2, [0, 0] + fold(value))

    def test_none_told_as_a_value(self):
        self.values_refused(1, [0] + fold(NONE))
        self.values_refused(2, [0] + fold(NONE) + [0])
        self.values_refused(3, [3] + fold(NONE) + [0])

    def test_out_of_the_range_by_way_1(self):
        self.assertEqual(self.values_taken(2, [1] + fold(TOP - 1) + [2]), [TOP - 1, TOP])
        self.values_refused(2, [1] + fold(TOP) + [2])
        self.values_refused(2, [1] + fold(TOP + 1) + [1])
        self.assertEqual(self.values_taken(2, [1] + fold(1 - TOP) + [1]), [1 - TOP, -TOP])
        self.values_refused(2, [1] + fold(-TOP) + [1])

    def test_out_of_the_range_by_way_2(self):
        told = [2] + fold(TOP - 2000) + fold(1000)
        self.assertEqual(self.values_taken(3, told + [0]), [TOP - 2000, TOP - 1000, TOP])
        self.values_refused(3, told + [2])
        told = [2] + fold(2000 - TOP) + fold(-1000)
        self.assertEqual(self.values_taken(3, told + [0]), [2000 - TOP, 1000 - TOP, -TOP])
        self.values_refused(3, told + [1])

    def test_out_of_the_range_by_way_3(self):
        self.assertEqual(self.values_taken(3, [3] + fold(TOP) + [0]), [TOP] * 3)
        self.values_refused(3, [3] + fold(TOP + 1) + [0])
        self.values_refused(3, [3] + fold(-TOP - 1) + [0])
        bits = [0b10101010] * 8
        self.assertEqual(self.values_taken(64, [3] + fold(TOP - 1) + [1] + bits), [TOP - 1, TOP] * 32)
        self.values_refused(64, [3] + fold(TOP) + [1] + bits)
        self.assertEqual(self.values_taken(64, [3] + fold(-TOP) + [1] + bits), [-TOP, 1 - TOP] * 32)
        self.values_refused(64, [3] + fold(-TOP - 1) + [1] + bits)

    def test_numbers_that_could_be_shorter(self):
        for told in ([142, 0], [142, 128, 0], [142] + [128] * 8 + [0]):
            self.values_refused(1, [0] + told)
            self.values_refused(2, [1, 208, 15] + told)
            self.values_refused(3, [3] + told + [0])

    def test_numbers_of_more_than_ten_bytes(self):
        for told in ([142] + [128] * 9 + [0], [142] + [128] * 9 + [1], [255] * 10 + [0], [255] * 30):
            self.values_refused(1, [0] + told)
            self.values_refused(2, [0, 0] + told)
            self.refused(2, told + BARE)
            self.refused(3, [0] + told + BARE)

    def test_an_early_end(self):
        self.refused(1, [0, 0, 128])
        self.refused(1, [0, 0])
        self.refused(3, [0, 1, 0, 2, 0])


class Qualities(NoBlock):
    def qualities_taken(self, many, told):
        return [quality for time, value, quality in self.taken(many, self.times(many) + [2] + told)]

    def qualities_refused(self, many, told):
        self.refused(many, self.times(many) + [2] + told)

    def test_runs_though_all_are_0(self):
        self.assertEqual(self.qualities_taken(2, [0]), [0, 0])
        self.qualities_refused(2, [1, 0, 2])
        self.qualities_refused(1, [1, 0, 1])
        self.qualities_refused(2, [2, 0, 1, 0, 1])

    def test_two_alike_runs_side_by_side(self):
        self.assertEqual(self.qualities_taken(2, [1, 5, 2]), [5, 5])
        self.qualities_refused(2, [2, 5, 1, 5, 1])
        self.assertEqual(self.qualities_taken(3, [2, 5, 2, 0, 1]), [5, 5, 0])
        self.qualities_refused(3, [3, 5, 1, 5, 1, 0, 1])
        self.qualities_refused(4, [3, 5, 2, 0, 1, 0, 1])

    def test_a_run_of_length_0(self):
        self.qualities_refused(2, [2, 5, 2, 6, 0])
        self.qualities_refused(2, [2, 6, 0, 5, 2])
        self.qualities_refused(2, [3, 5, 1, 6, 0, 5, 1])
        self.qualities_refused(2, [1, 5, 0])

    def test_too_many_and_too_few_rows(self):
        self.assertEqual(self.qualities_taken(4, [2, 5, 3, 6, 1]), [5, 5, 5, 6])
        self.qualities_refused(4, [2, 5, 3, 6, 2])
        self.qualities_refused(4, [2, 5, 2, 6, 1])
        self.qualities_refused(4, [1, 5, 3])
        self.qualities_refused(4, [1, 5, 5])
        self.qualities_refused(4, [1, 5, 255])
        self.qualities_refused(64, [255] + [5, 255, 6, 255] * 127 + [5, 255])

    def test_too_many_and_too_few_runs(self):
        self.qualities_refused(4, [1, 5, 3, 6, 1])
        self.qualities_refused(4, [3, 5, 3, 6, 1])
        self.qualities_refused(4, [2, 5, 3, 6])
        self.qualities_refused(4, [2, 5, 3])
        self.qualities_refused(4, [])
        self.qualities_refused(64, [65] + [9, 1, 0, 1] * 32)


class Bytes(NoBlock):
    def test_what_head_refuses(self):
        block = packed(made_rows(70))
        self.assertEqual(ask(rows(block))[0][0], 70)
        others = ([], [64] + block[1:], [0, 0], block + [0], block[:-1], [0, 129, 0, 0, 2, 2, 0], [0, 1, 128, 0, 2, 2, 0],
                  [0, 1, 0, 130, 0, 2, 0], [0] + [129] * 10 + [1, 0, 2, 2, 0], [0, 1] + small(TOP + 1) + [2, 2, 0],
                  [0, 129, 8] + [0, 2] * 17 + [2, 0] * 17)
        for other in others:
            self.assertEqual(ask(head(other), rows(other)), [[-3], [-3]], other)
        for many in range(len(block)):
            self.assertEqual(ask(rows(block[:many])), [[-3]])

    def test_a_group_of_no_bytes(self):
        self.refused(1, [])
        self.refused(64, [])
        self.refused_block(block_of(65, [(0, [0, 123] + BARE), (0, [])]))

    def test_a_byte_too_many_and_too_few(self):
        for many in (1, 2, 3, 64):
            told = groups_of(packed(made_rows(many)))[0]
            self.taken(many, told[1], told[0])
            self.refused(many, told[1] + [0], told[0])
            self.refused(many, told[1] + [1], told[0])
            for size in range(len(told[1])):
                self.refused(many, told[1][:size], told[0])

    def test_bytes_of_one_group_told_as_anothers(self):
        told = [(0, [0, 123] + BARE), (0, [0, 123] + BARE)]
        self.assertEqual(ask(rows(block_of(128, told)))[0][:2], [128, 0])
        whole = [0, 123] + BARE + [0, 123] + BARE
        for size in range(len(whole) + 1):
            if size != 4:
                self.refused_block(block_of(128, [(0, whole[:size]), (0, whole[size:])]))

    def test_a_fault_in_any_group(self):
        groups = groups_of(packed([(k, NONE, 0) for k in range(300)]))
        self.assertEqual(ask(rows(block_of(300, groups)))[0][0], 300)
        for k, (first, told) in enumerate(groups):
            self.refused_block(block_of(300, groups[:k] + [(first, told + [0])] + groups[k + 1:]))

    def test_rows_that_another_count_of_rows_has(self):
        told = [10, 5] + BARE
        self.taken(5, told)
        self.refused(4, told)
        self.refused(6, told)


class GroupsInOrder(NoBlock):
    def of_two(self, second):
        # The first group's last time is 630.
        return block_of(65, [(0, [10, 123] + BARE), (second, BARE)])

    def test_times_that_go_back_from_one_group_to_the_next(self):
        for second in (630, 631, TOP):
            block = self.of_two(second)
            self.assertEqual(ask(rows(block)), [[65, 0] + flat((10 * k, NONE, 0) for k in range(64)) + [second, NONE, 0]])
        for second in (0, 1, 629):
            self.refused_block(self.of_two(second))

    def test_behind_the_second_group(self):
        told = [10, 123] + BARE
        self.assertEqual(ask(rows(block_of(129, [(0, told), (630, told), (1260, BARE)])))[0][:2], [129, 0])
        self.refused_block(block_of(129, [(0, told), (630, told), (1259, BARE)]))
        self.refused_block(block_of(129, [(0, told), (629, told), (1260, BARE)]))


class OneByteOther(unittest.TestCase):
    """Any byte changed, left out or put in: it is no block, or one that just its rows are packed into."""

    def test_no_bytes_are_taken_for_rows_of_other_bytes(self):
        for found in ([(1000, 7, 0)], [(5, NONE, 3)], [(10, -1, 0), (13, 1, 0)],
                      [(100, 5, 0), (160, NONE, 0), (220, 7, 1)],
                      [(7, 0, 1), (8, 1000, 1), (9, 2000, 0), (10, 3001, 0)],
                      [(k * k, 400 + k % 3, k // 9) for k in range(20)],
                      [(60 * k, 5, 0) for k in range(66)]):
            taken = self.taken_of(self.others(packed(found, 9)))
            self.assertGreater(len(taken), 0)
            for block, answer in taken:
                channel, told = Unpacker(block).block()
                self.assertEqual(answer, [len(told), channel] + flat(told))
                self.assertEqual(packed(told, channel), block)

    def others(self, block):
        found = []
        for k in range(len(block)):
            found += [block[:k] + [byte] + block[k + 1:] for byte in range(256) if byte != block[k]]
        # With the head told anew, so that the group is looked at.
        (first, told), rest, many = groups_of(block)[0], groups_of(block)[1:], ask(head(block))[0][0]
        for k in range(len(told) + 1):
            found += [block_of(many, [(first, told[:k] + [byte] + told[k:])] + rest) for byte in range(256)]
            found.append(block_of(many, [(first, told[:k] + told[k + 1:])] + rest))
        return found

    def taken_of(self, blocks):
        taken = []
        for start in range(0, len(blocks), 200):
            part = blocks[start:start + 200]
            taken += [(block, answer) for block, answer in zip(part, ask(*map(rows, part))) if answer != [-3]]
        return taken


if __name__ == "__main__":
    unittest.main()
