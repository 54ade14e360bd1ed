"""Small numbers by themselves: no head can hold one of ten bytes, later calls can."""

import unittest

from stationpack.coding import small_bytes, take_small
from stationpack.reader import Reader
from stationpack.refusals import NotABlock


class Small(unittest.TestCase):
    def test_there_and_back(self):
        for power in range(70):
            for number in (2 ** power - 1, 2 ** power, 2 ** power + 1):
                reader = Reader(small_bytes(number) + [77])
                self.assertEqual(take_small(reader), number)
                self.assertEqual(reader.left(), 1)

    def test_ten_bytes_at_the_most(self):
        self.assertEqual(take_small(Reader([255] * 9 + [127])), 2 ** 70 - 1)
        for told in ([255] * 10 + [1], [128] * 10 + [1], [128] * 9 + [0], [128] * 10, []):
            with self.assertRaises(NotABlock):
                take_small(Reader(told))


if __name__ == "__main__":
    unittest.main()
