"""How frames are written, and read."""

import unittest

from onestream.frames import (credit_frame, data_frame, going_frame, number_bytes, still_asked_frame, still_frame,
                              stopped_frame)
from onestream.reading import number_of


class Frames(unittest.TestCase):
    def test_the_highest_byte_first(self):
        self.assertEqual(number_bytes(258, 2), [1, 2])
        self.assertEqual(number_bytes(16909060, 4), [1, 2, 3, 4])
        self.assertEqual(number_bytes(4294967295, 4), [255, 255, 255, 255])
        self.assertEqual(number_bytes(0, 4), [0, 0, 0, 0])

    def test_data(self):
        self.assertEqual(data_frame(16909060, False, [9, 8, 7]), [0, 3, 1, 0, 1, 2, 3, 4, 9, 8, 7])
        self.assertEqual(data_frame(1, True, []), [0, 0, 1, 1, 0, 0, 0, 1])
        self.assertEqual(data_frame(1, False, [5] * 1024)[:8], [4, 0, 1, 0, 0, 0, 0, 1])

    def test_credit(self):
        self.assertEqual(credit_frame(3, 8192), [0, 4, 2, 0, 0, 0, 0, 3, 0, 0, 32, 0])
        self.assertEqual(credit_frame(0, 32768), [0, 4, 2, 0, 0, 0, 0, 0, 0, 0, 128, 0])

    def test_stopped(self):
        self.assertEqual(stopped_frame(4, 16909060), [0, 4, 3, 0, 0, 0, 0, 4, 1, 2, 3, 4])

    def test_still(self):
        self.assertEqual(still_asked_frame(72623859790382856), [0, 8, 4, 0, 0, 0, 0, 0, 1, 2, 3, 4, 5, 6, 7, 8])
        self.assertEqual(still_frame(72623859790382856), [0, 8, 5, 0, 0, 0, 0, 0, 1, 2, 3, 4, 5, 6, 7, 8])
        self.assertEqual(still_frame(18446744073709551615), [0, 8, 5, 0, 0, 0, 0, 0] + [255] * 8)

    def test_going(self):
        self.assertEqual(going_frame(16909060), [0, 4, 6, 0, 0, 0, 0, 0, 1, 2, 3, 4])

    def test_numbers_are_read_as_they_are_written(self):
        self.assertEqual(number_of([1, 2, 3, 4]), 16909060)
        self.assertEqual(number_of([255] * 8), 18446744073709551615)
        for value in (0, 1, 255, 256, 65535, 65536, 4294967295):
            self.assertEqual(number_of(number_bytes(value, 8)), value)


if __name__ == "__main__":
    unittest.main()
