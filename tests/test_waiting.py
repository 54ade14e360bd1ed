"""Promises 1 to 3: begin, add, waits."""

import unittest

from helpers import NONE, TOP, add, ask, begin, pack, packed, waits


class Begin(unittest.TestCase):
    def test_answers_nought(self):
        self.assertEqual(ask(begin()), [[0]])

    def test_no_row_waits_of_any_channel(self):
        filled = [add(c, 5) for c in (0, 1, 31, 63, 63)]
        found = ask(*filled, begin(), *[waits(c) for c in range(64)])
        self.assertEqual(found[5:], [[0]] * 65)

    def test_times_begin_anew(self):
        self.assertEqual(ask(add(3, 100), begin(), add(3, 7)), [[1], [0], [1]])


class Add(unittest.TestCase):
    def test_answers_how_many_wait(self):
        self.assertEqual(ask(add(4, 1), add(4, 2), add(9, 1), add(4, 3)), [[1], [2], [1], [3]])

    def test_just_inside_each_range(self):
        inside = [add(0, 5), add(63, 5), add(1, 0), add(2, TOP), add(3, 5, -TOP), add(4, 5, TOP),
                  add(5, 5, NONE), add(6, 5, 0, 0), add(7, 5, 0, 255)]
        self.assertEqual(ask(*inside), [[1]] * len(inside))

    def test_just_outside_each_range(self):
        outside = [add(-1, 5), add(64, 5), add(1, -1), add(1, TOP + 1), add(1, 5, -TOP - 1), add(1, 5, TOP + 1),
                   add(1, 5, NONE + 1), add(1, 5, 0, -1), add(1, 5, 0, 256)]
        for call in outside:
            self.assertEqual(ask(call, waits(1)), [[-1], [0]], call)

    def test_far_outside_each_range(self):
        for far in (-2 ** 63, 2 ** 63 - 1):
            self.assertEqual(ask(add(far, 5), add(1, far), add(1, 5, 0, far), waits(1)), [[-1], [-1], [-1], [0]])
        self.assertEqual(ask(add(1, 5, 2 ** 63 - 1)), [[-1]])

    def test_before_the_last_time(self):
        self.assertEqual(ask(add(1, 50), add(1, 49), add(1, 0), waits(1)), [[1], [-4], [-4], [1]])

    def test_the_same_time(self):
        self.assertEqual(ask(add(1, 50), add(1, 50), add(1, 51), add(1, 50)), [[1], [2], [3], [-4]])

    def test_order_is_each_channels_own(self):
        self.assertEqual(ask(add(1, 50), add(2, 10), add(1, 50)), [[1], [1], [2]])

    def test_1024_wait_at_most(self):
        found = ask(*[add(1, k) for k in range(1024)], add(1, 2000), waits(1), add(2, 0))
        self.assertEqual(found, [[k + 1] for k in range(1024)] + [[-5], [1024], [1]])

    def test_which_refusal_comes_first(self):
        full = [add(1, 7) for _ in range(1024)]
        self.assertEqual(ask(*full, add(1, 6), add(1, 6, 0, 256), add(1, -1))[1024:], [[-5], [-1], [-1]])
        self.assertEqual(ask(add(1, 7), add(1, 6, TOP + 1), add(1, 6)), [[1], [-1], [-4]])

    def test_a_refusal_changes_nothing(self):
        refused = [add(1, 4, 9, 9), add(1, 6, TOP + 1, 9), add(64, 6, 9, 9), add(1, 6, 9, 256), add(1, TOP + 1)]
        found = ask(add(1, 5, 8, 3), *refused, add(1, 5, 7, 3), pack(1))
        self.assertEqual(found[:-1], [[1], [-4], [-1], [-1], [-1], [-1], [2]])
        self.assertEqual(found[-1][1:], packed([(5, 8, 3), (5, 7, 3)], 1))

    def test_a_refusal_for_want_of_room_changes_nothing(self):
        rows = [(k, k, 0) for k in range(1024)]
        found = ask(*[add(1, *row) for row in rows], add(1, 5000, 1, 1), add(1, 0, 1, 1), pack(1))
        self.assertEqual(found[-1][1:], packed(rows, 1))


class Waits(unittest.TestCase):
    def test_each_channel_has_its_own_rows(self):
        filled = [add(c, 1) for c in range(64) for _ in range(c % 3)]
        found = ask(*filled, *[waits(c) for c in range(64)])
        self.assertEqual(found[len(filled):], [[c % 3] for c in range(64)])

    def test_none_waits_at_the_beginning(self):
        self.assertEqual(ask(waits(0), waits(63)), [[0], [0]])

    def test_outside_the_range(self):
        self.assertEqual(ask(waits(-1), waits(64), waits(-2 ** 63), waits(2 ** 63 - 1)), [[-1]] * 4)

    def test_changes_nothing(self):
        self.assertEqual(ask(add(1, 1), waits(1), waits(1), add(1, 1)), [[1], [1], [1], [2]])


if __name__ == "__main__":
    unittest.main()
