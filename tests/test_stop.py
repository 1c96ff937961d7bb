"""Point 5: stop."""

import unittest

from onestream import handling, sending
from tests.lines import (ASK, GREATEST, begin, credit, data, out, put, said, sent, side_with, some_bytes, stop,
                         stopped)


class Stop(unittest.TestCase):
    def test_its_frame(self):
        told = said(ASK, stop(1, 258), out(100), out(100))
        self.assertEqual(told, [[1], [0], [12, 0, 4, 3, 0, 0, 0, 0, 1, 0, 0, 1, 2], [0]])

    def test_its_frame_on_side_2(self):
        self.assertEqual(said(begin(2), ASK, stop(2, 7), out(100))[2:], [[0], sent(stopped(2, 7))])

    def test_a_great_number(self):
        side = side_with(0)
        side.to_ask = 4294967295
        handling.ask(side)
        self.assertEqual(handling.stop(side, 4294967295, 1), [0])
        self.assertEqual(sending.out(side, 12), [12, 0, 4, 3, 0, 255, 255, 255, 255, 0, 0, 0, 1])

    def test_why(self):
        for why in (0, 1, 255, 256, 4294967295):
            self.assertEqual(said(ASK, stop(1, why), out(100))[1:], [[0], sent(stopped(1, why))])

    def test_why_of_2_to_the_32_or_more(self):
        for why in (4294967296, 4294967297, GREATEST):
            told = said(ASK, put(1, [5]), stop(1, why), put(1, [6]), out(100))
            self.assertEqual(told[2:], [[-1], [2], sent(data(1, [5, 6]))])

    def test_none_there(self):
        for number in (0, 2, 3, 4294967297, GREATEST):
            self.assertEqual(said(ASK, stop(number, 0), out(100))[1:], [[-2], [0]])

    def test_the_order_of_the_refusals(self):
        self.assertEqual(said(stop(1, 4294967296), stop(1, 4294967295)), [[-1], [-2]])

    def test_a_second_stop(self):
        told = said(ASK, stop(1, 4), stop(1, 4), out(100), stop(1, 4), out(100))
        self.assertEqual(told[1:], [[0], [-2], sent(stopped(1, 4)), [-2], [0]])

    def test_what_waited_is_not_sent(self):
        told = said(ASK, ASK, put(1, some_bytes(2000), 1), put(3, [3]), out(1032), stop(1, 9), out(5000), out(5000))
        self.assertEqual(told[4], sent(data(1, some_bytes(1024))))
        self.assertEqual(told[5:], [[0], sent(stopped(1, 9), data(3, [3])), [0]])

    def test_an_ended_one_can_be_stopped(self):
        told = said(ASK, put(1, [1], 1), out(100), stop(1, 2), out(100))
        self.assertEqual(told[3:], [[0], sent(stopped(1, 2))])

    def test_what_was_not_taken_is_given_back(self):
        side = side_with(2)
        side.exchanges[1].untaken = some_bytes(300)
        self.assertEqual(handling.stop(side, 1, 0), [0])
        self.assertEqual((side.owed, side.left), (300, 65536))
        side.owed = 32700
        side.exchanges[3].untaken = some_bytes(68)
        self.assertEqual(handling.stop(side, 3, 0), [0])
        self.assertEqual((side.owed, side.left), (0, 98304))
        self.assertEqual(sending.out(side, 100), sent(stopped(1, 0), credit(0, 32768), stopped(3, 0)))


if __name__ == "__main__":
    unittest.main()
