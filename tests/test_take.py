"""Point 4: take, and what is given back by it."""

import unittest

from onestream import handling, sending
from onestream.desk import Line
from tests.lines import ASK, GREATEST, begin, credit, data, out, put, said, sent, side_with, some_bytes, stop, take


def side_with_bytes(what, last=False):
    side = side_with(1)
    side.exchanges[1].untaken = list(what)
    side.exchanges[1].last_came = last
    return side


class Take(unittest.TestCase):
    def test_none_there(self):
        for number in (0, 2, 3, GREATEST):
            self.assertEqual(said(ASK, take(number, 0), take(number, GREATEST))[1:], [[-2], [-2]])
        self.assertEqual(said(ASK, stop(1, 0), take(1, 1))[2], [-2])
        self.assertEqual(said(begin(2), ASK, take(1, 1), take(2, 1))[2:], [[-2], [0, 0]])

    def test_nothing_came(self):
        for most in (0, 1, 1024, GREATEST):
            self.assertEqual(said(ASK, take(1, most))[1], [0, 0])

    def test_what_waits_to_be_sent_is_not_taken(self):
        told = said(ASK, put(1, [1, 2], 1), take(1, 5), out(100), take(1, 5), take(1, 5))
        self.assertEqual(told[2:], [[0, 0], sent(data(1, [1, 2], 1)), [0, 0], [0, 0]])

    def test_the_first_of_what_came(self):
        side = side_with_bytes([1, 2, 3, 4, 5])
        self.assertEqual(handling.take(side, 1, 0), [0, 0])
        self.assertEqual(handling.take(side, 1, 2), [2, 0, 1, 2])
        self.assertEqual(handling.take(side, 1, GREATEST), [3, 0, 3, 4, 5])
        self.assertEqual(handling.take(side, 1, GREATEST), [0, 0])

    def test_a_call_hands_on_its_number_and_its_most(self):
        line = Line()
        line.side = side_with_bytes([1, 2, 3, 4, 5])
        self.assertEqual(line.answer(4, [1, 3], []), [3, 0, 1, 2, 3])

    def test_the_end(self):
        side = side_with_bytes([1, 2, 3], True)
        self.assertEqual(handling.take(side, 1, 0), [0, 0])
        self.assertEqual(handling.take(side, 1, 2), [2, 0, 1, 2])
        self.assertEqual(handling.take(side, 1, 1), [1, 1, 3])
        self.assertEqual(handling.take(side, 1, 1), [0, 1])
        self.assertEqual(handling.take(side_with_bytes([], True), 1, 0), [0, 1])


class Gone(unittest.TestCase):
    def test_gone_behind_a_take(self):
        side = side_with_bytes([1, 2], True)
        handling.put(side, 1, 1, [9])
        self.assertEqual(sending.out(side, 100), sent(data(1, [9], 1)))
        self.assertEqual(handling.take(side, 1, 1), [1, 0, 1])
        self.assertEqual(handling.take(side, 1, 1), [1, 1, 2])
        self.assertEqual(handling.take(side, 1, 1), [-2])

    def test_gone_behind_an_out(self):
        side = side_with_bytes([1], True)
        handling.put(side, 1, 1, [9, 8])
        self.assertEqual(handling.take(side, 1, 1), [1, 1, 1])
        self.assertEqual(sending.out(side, 9), sent(data(1, [9])))
        self.assertEqual(handling.take(side, 1, 1), [0, 1])
        self.assertEqual(sending.out(side, 9), sent(data(1, [8], 1)))
        self.assertEqual(handling.take(side, 1, 1), [-2])

    def test_not_gone_until_the_end_is_told(self):
        side = side_with_bytes([1], True)
        handling.put(side, 1, 1, [9])
        sending.out(side, 100)
        sending.out(side, 100)
        self.assertEqual(handling.take(side, 1, 0), [0, 0])
        side.exchanges[1].untaken = []
        sending.out(side, 100)
        self.assertEqual(handling.take(side, 1, 0), [0, 1])
        self.assertEqual(handling.take(side, 1, 0), [-2])

    def test_a_take_of_another_does_not_end_it(self):
        side = side_with(2)
        side.exchanges[1].last_sent = True
        side.exchanges[1].end_told = True
        self.assertEqual(handling.take(side, 3, 0), [0, 0])
        self.assertEqual(sorted(side.exchanges), [1, 3])
        sending.out(side, 0)
        self.assertEqual(sorted(side.exchanges), [3])

    def test_one_that_is_gone_makes_room(self):
        side = side_with(64)
        side.exchanges[7].last_came = True
        handling.put(side, 7, 1, [])
        handling.take(side, 7, 0)
        self.assertEqual(handling.ask(side), [-5])
        sending.out(side, 8)
        self.assertEqual(handling.ask(side), [129])


class GivenBack(unittest.TestCase):
    def test_below_8192_is_owed(self):
        side = side_with_bytes(some_bytes(8191))
        handling.take(side, 1, GREATEST)
        self.assertEqual((side.exchanges[1].owed, side.exchanges[1].left, side.owed), (8191, 16384, 8191))
        self.assertEqual(sending.out(side, 100), [0])

    def test_at_8192_credit_is_sent(self):
        side = side_with_bytes(some_bytes(9000))
        handling.take(side, 1, 8191)
        handling.take(side, 1, 1)
        self.assertEqual((side.exchanges[1].owed, side.exchanges[1].left, side.owed), (0, 24576, 8192))
        self.assertEqual(sending.out(side, 100), sent(credit(1, 8192)))

    def test_more_than_8192_at_once(self):
        side = side_with_bytes(some_bytes(16384))
        handling.take(side, 1, GREATEST)
        self.assertEqual(side.exchanges[1].left, 32768)
        self.assertEqual(sending.out(side, 100), sent(credit(1, 16384)))

    def test_no_credit_behind_the_last(self):
        side = side_with_bytes(some_bytes(9000), True)
        handling.take(side, 1, GREATEST)
        self.assertEqual((side.exchanges[1].owed, side.exchanges[1].left, side.owed), (9000, 16384, 9000))
        self.assertEqual(sending.out(side, 100), [0])

    def test_below_32768_of_all_is_owed(self):
        side = side_with_bytes(some_bytes(10))
        side.owed = 32757
        handling.take(side, 1, GREATEST)
        self.assertEqual((side.owed, side.left), (32767, 65536))
        self.assertEqual(sending.out(side, 100), [0])

    def test_at_32768_of_all_credit_is_sent(self):
        side = side_with_bytes(some_bytes(11))
        side.owed = 32757
        handling.take(side, 1, GREATEST)
        self.assertEqual((side.owed, side.left), (0, 98304))
        self.assertEqual(sending.out(side, 100), sent(credit(0, 32768)))

    def test_the_credit_of_it_is_before_that_of_all(self):
        side = side_with_bytes(some_bytes(8192))
        side.owed = 32000
        handling.take(side, 1, GREATEST)
        self.assertEqual((side.owed, side.left), (0, 65536 + 40192))
        self.assertEqual(sending.out(side, 100), sent(credit(1, 8192), credit(0, 40192)))


if __name__ == "__main__":
    unittest.main()
