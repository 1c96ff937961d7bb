"""Point 3: put."""

import unittest

from onestream import handling
from tests.lines import ASK, GREATEST, begin, data, out, put, said, sent, side_with, some_bytes, stop


class Put(unittest.TestCase):
    def test_how_many_wait(self):
        told = said(ASK, put(1, [1]), put(1, [2, 3]), put(1, some_bytes(500), 1), out(1000))
        self.assertEqual(told[1:4], [[1], [3], [503]])
        self.assertEqual(told[4], sent(data(1, [1, 2, 3] + some_bytes(500), 1)))

    def test_sent_bytes_wait_no_more(self):
        told = said(ASK, put(1, [1, 2, 3]), out(10), put(1, [4, 5]))
        self.assertEqual(told[2:], [sent(data(1, [1, 2])), [3]])

    def test_each_exchange_has_its_own(self):
        told = said(ASK, ASK, put(3, [1, 2]), put(1, [3]), put(3, [4]))
        self.assertEqual(told[2:], [[2], [1], [3]])

    def test_bytes_from_0_to_255(self):
        every = list(range(256))
        self.assertEqual(said(ASK, put(1, every), out(GREATEST))[2], sent(data(1, every)))

    def test_the_most_that_one_put_has(self):
        what = some_bytes(15900, 3)
        told = said(ASK, put(1, what, 1), out(GREATEST))
        self.assertEqual(told[1], [15900])
        frames = [data(1, what[k:k + 1024], 1 if k + 1024 >= 15900 else 0) for k in range(0, 15900, 1024)]
        self.assertEqual(told[2], sent(*frames))

    def test_last_above_1(self):
        for last in (2, 3, 257, GREATEST):
            told = said(ASK, put(1, [1], last), put(1, [2]), out(100))
            self.assertEqual(told[1:], [[-1], [1], sent(data(1, [2]))])

    def test_none_there(self):
        for number in (0, 2, 3, 5, 4294967297, GREATEST):
            self.assertEqual(said(ASK, put(number, [1]), put(number, [1], 1), out(100))[1:], [[-2], [-2], [0]])
        self.assertEqual(said(put(1, [1])), [[-2]])
        self.assertEqual(said(begin(2), ASK, put(1, [1]), put(3, [1]), put(2, [1]))[2:], [[-2], [-2], [1]])

    def test_stopped_ones_are_not_there(self):
        told = said(ASK, ASK, stop(1, 0), put(1, [1]), put(3, [1]))
        self.assertEqual(told[3:], [[-2], [1]])

    def test_after_an_end(self):
        told = said(ASK, put(1, [1], 1), put(1, [2]), put(1, [3], 1), out(100), put(1, [4]), out(100))
        self.assertEqual(told[1:], [[1], [-6], [-6], sent(data(1, [1], 1)), [-6], [0]])

    def test_the_order_of_the_refusals(self):
        told = said(ASK, put(1, [1], 1), put(3, [1], 2), put(1, [1], 2), put(1, [1], 1))
        self.assertEqual(told[2:], [[-1], [-1], [-6]])

    def test_all_refusals_at_once(self):
        side = side_with(1)
        handling.put(side, 1, 1, some_bytes(65536))
        self.assertEqual(handling.put(side, 1, 2, [1]), [-1])
        self.assertEqual(handling.put(side, 3, 2, some_bytes(65537)), [-1])
        self.assertEqual(handling.put(side, 3, 1, some_bytes(65537)), [-2])
        self.assertEqual(handling.put(side, 1, 1, [1]), [-6])

    def test_65536_wait_and_no_more(self):
        side = side_with(2)
        self.assertEqual(handling.put(side, 1, 0, some_bytes(65535)), [65535])
        self.assertEqual(handling.put(side, 1, 1, [1, 2]), [-5])
        self.assertEqual(handling.put(side, 1, 0, [5]), [65536])
        self.assertEqual(handling.put(side, 1, 1, [1]), [-5])
        # The end of a refused put does not count either.
        self.assertEqual(handling.put(side, 1, 1, []), [65536])
        self.assertEqual(side.exchanges[1].waiting, some_bytes(65535) + [5])
        self.assertEqual(handling.put(side, 3, 0, some_bytes(65537)), [-5])
        self.assertEqual(handling.put(side, 3, 0, some_bytes(65536)), [65536])


if __name__ == "__main__":
    unittest.main()
