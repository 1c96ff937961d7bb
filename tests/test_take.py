"""Point 4: take, and what is given back by it."""

import unittest

from onestream import handling, receiving, sending
from onestream.desk import Line
from tests.lines import (ASK, COUNT, GREATEST, begin, came, credit, data, look, out, put, said, sent, side_with,
                         some_bytes, stop, stopped, take, told)


def side_with_bytes(what, last=False):
    side = side_with(1)
    side.exchanges[1].untaken = list(what)
    side.exchanges[1].last_came = last
    return side


class Take(unittest.TestCase):
    def test_none_there(self):
        for number in (0, 2, 3, GREATEST):
            self.assertEqual(said(ASK, take(number, 0), take(number, GREATEST))[1:], [[-2], [-2]])
        self.assertEqual(said(ASK, stop(1, 0), take(1, 1))[2], [-2])
        self.assertEqual(said(begin(2), ASK, take(1, 1), take(2, 1))[2:], [[-2], [0, 0]])

    def test_nothing_came(self):
        for most in (0, 1, 1024, GREATEST):
            self.assertEqual(said(ASK, take(1, most))[1], [0, 0])

    def test_what_waits_to_be_sent_is_not_taken(self):
        told = said(ASK, put(1, [1, 2], 1), take(1, 5), out(100), take(1, 5), take(1, 5))
        self.assertEqual(told[2:], [[0, 0], sent(data(1, [1, 2], 1)), [0, 0], [0, 0]])

    def test_the_first_of_what_came(self):
        side = side_with_bytes([1, 2, 3, 4, 5])
        self.assertEqual(handling.take(side, 1, 0), [0, 0])
        self.assertEqual(handling.take(side, 1, 2), [2, 0, 1, 2])
        self.assertEqual(handling.take(side, 1, GREATEST), [3, 0, 3, 4, 5])
        self.assertEqual(handling.take(side, 1, GREATEST), [0, 0])

    def test_a_call_hands_on_its_number_and_its_most(self):
        line = Line()
        line.side = side_with_bytes([1, 2, 3, 4, 5])
        self.assertEqual(line.answer(4, [1, 3], []), [3, 0, 1, 2, 3])

    def test_the_end(self):
        side = side_with_bytes([1, 2, 3], True)
        self.assertEqual(handling.take(side, 1, 0), [0, 0])
        self.assertEqual(handling.take(side, 1, 2), [2, 0, 1, 2])
        self.assertEqual(handling.take(side, 1, 1), [1, 1, 3])
        self.assertEqual(handling.take(side, 1, 1), [0, 1])
        self.assertEqual(handling.take(side_with_bytes([], True), 1, 0), [0, 1])


class Gone(unittest.TestCase):
    def test_gone_behind_a_take(self):
        side = side_with_bytes([1, 2], True)
        handling.put(side, 1, 1, [9])
        self.assertEqual(sending.out(side, 100), sent(data(1, [9], 1)))
        self.assertEqual(handling.take(side, 1, 1), [1, 0, 1])
        self.assertEqual(handling.take(side, 1, 1), [1, 1, 2])
        self.assertEqual(handling.take(side, 1, 1), [-2])

    def test_gone_behind_an_out(self):
        side = side_with_bytes([1], True)
        handling.put(side, 1, 1, [9, 8])
        self.assertEqual(handling.take(side, 1, 1), [1, 1, 1])
        self.assertEqual(sending.out(side, 9), sent(data(1, [9])))
        self.assertEqual(handling.take(side, 1, 1), [0, 1])
        self.assertEqual(sending.out(side, 9), sent(data(1, [8], 1)))
        self.assertEqual(handling.take(side, 1, 1), [-2])

    def test_not_gone_until_the_end_is_told(self):
        side = side_with_bytes([1], True)
        handling.put(side, 1, 1, [9])
        sending.out(side, 100)
        sending.out(side, 100)
        self.assertEqual(handling.take(side, 1, 0), [0, 0])
        side.exchanges[1].untaken = []
        sending.out(side, 100)
        self.assertEqual(handling.take(side, 1, 0), [0, 1])
        self.assertEqual(handling.take(side, 1, 0), [-2])

    def test_a_take_of_another_does_not_end_it(self):
        side = side_with(2)
        side.exchanges[1].last_sent = True
        side.exchanges[1].end_told = True
        self.assertEqual(handling.take(side, 3, 0), [0, 0])
        self.assertEqual(sorted(side.exchanges), [1, 3])
        sending.out(side, 0)
        self.assertEqual(sorted(side.exchanges), [3])

    def test_one_that_is_gone_makes_room(self):
        side = side_with(64)
        side.exchanges[7].last_came = True
        handling.put(side, 7, 1, [])
        handling.take(side, 7, 0)
        self.assertEqual(handling.ask(side), [-5])
        sending.out(side, 8)
        self.assertEqual(handling.ask(side), [129])


class GivenBack(unittest.TestCase):
    def test_below_8192_is_owed(self):
        side = side_with_bytes(some_bytes(8191))
        handling.take(side, 1, GREATEST)
        self.assertEqual((side.exchanges[1].owed, side.exchanges[1].left, side.owed), (8191, 16384, 8191))
        self.assertEqual(sending.out(side, 100), [0])

    def test_at_8192_credit_is_sent(self):
        side = side_with_bytes(some_bytes(9000))
        handling.take(side, 1, 8191)
        handling.take(side, 1, 1)
        self.assertEqual((side.exchanges[1].owed, side.exchanges[1].left, side.owed), (0, 24576, 8192))
        self.assertEqual(sending.out(side, 100), sent(credit(1, 8192)))

    def test_more_than_8192_at_once(self):
        side = side_with_bytes(some_bytes(16384))
        handling.take(side, 1, GREATEST)
        self.assertEqual(side.exchanges[1].left, 32768)
        self.assertEqual(sending.out(side, 100), sent(credit(1, 16384)))

    def test_no_credit_behind_the_last(self):
        side = side_with_bytes(some_bytes(9000), True)
        handling.take(side, 1, GREATEST)
        self.assertEqual((side.exchanges[1].owed, side.exchanges[1].left, side.owed), (9000, 16384, 9000))
        self.assertEqual(sending.out(side, 100), [0])

    def test_below_32768_of_all_is_owed(self):
        side = side_with_bytes(some_bytes(10))
        side.owed = 32757
        handling.take(side, 1, GREATEST)
        self.assertEqual((side.owed, side.left), (32767, 65536))
        self.assertEqual(sending.out(side, 100), [0])

    def test_at_32768_of_all_credit_is_sent(self):
        side = side_with_bytes(some_bytes(11))
        side.owed = 32757
        handling.take(side, 1, GREATEST)
        self.assertEqual((side.owed, side.left), (0, 98304))
        self.assertEqual(sending.out(side, 100), sent(credit(0, 32768)))

    def test_the_credit_of_it_is_before_that_of_all(self):
        side = side_with_bytes(some_bytes(8192))
        side.owed = 32000
        handling.take(side, 1, GREATEST)
        self.assertEqual((side.owed, side.left), (0, 65536 + 40192))
        self.assertEqual(sending.out(side, 100), sent(credit(1, 8192), credit(0, 40192)))


class WhatCame(unittest.TestCase):
    def test_in_pieces(self):
        given = said(came(data(2, [1, 2, 3]), data(2, [4, 5])), take(2, 0), take(2, 2), take(2, 2), came(data(2, [6])),
                     take(2, 9), take(2, 9))
        self.assertEqual(given[1:], [[0, 0], [2, 0, 1, 2], [2, 0, 3, 4], told([2, 2, 1]), [2, 0, 5, 6], [0, 0]])

    def test_the_end_is_told_once_nothing_is_left(self):
        given = said(ASK, came(data(1, [1, 2], 1)), take(1, 0), take(1, 1), take(1, 1), take(1, 1), take(1, GREATEST))
        self.assertEqual(given[2:], [[0, 0], [1, 0, 1], [1, 1, 2], [0, 1], [0, 1]])

    def test_the_end_behind_all_bytes(self):
        given = said(ASK, came(data(1, [1])), take(1, 9), came(data(1, [], 1)), take(1, 0))
        self.assertEqual(given[2:], [[1, 0, 1], told([3, 1]), [0, 1]])

    def test_gone_behind_a_take(self):
        given = said(came(data(2, [1, 2], 1)), put(2, [9], 1), out(100), look(2), take(2, 1), look(2), take(2, 1),
                     look(2), take(2, 1), COUNT)
        self.assertEqual(given[2:], [sent(data(2, [9], 1)), [0, 0, 2, 16383, 2, 1, 16382], [1, 0, 1],
                                     [0, 0, 2, 16383, 1, 1, 16382], [1, 1, 2], [-2], [-2], [0, 0, 0, 65535, 65534]])

    def test_gone_behind_an_out(self):
        given = said(ASK, came(data(1, [1], 1)), take(1, 9), put(1, [8, 9], 1), out(9), take(1, 9), look(1), out(9),
                     look(1), take(1, 9))
        self.assertEqual(given[4:], [sent(data(1, [8])), [0, 1], [0, 1, 1, 16383, 0, 1, 16383], sent(data(1, [9], 1)),
                                     [-2], [-2]])

    def test_not_gone_when_the_last_comes(self):
        given = said(ASK, put(1, [1], 1), out(100), take(1, 9), came(data(1, [], 1)), look(1), out(100), look(1),
                     take(1, 9), look(1))
        self.assertEqual(given[3:], [[0, 0], told([3, 1]), [0, 0, 2, 16383, 0, 1, 16384], [0],
                                     [0, 0, 2, 16383, 0, 1, 16384], [0, 1], [-2]])

    def test_one_that_is_gone_makes_room(self):
        given = said(*[ASK] * 64, came(data(5, [], 1)), put(5, [1], 1), out(100), ASK, take(5, 1), ASK, ASK)
        self.assertEqual(given[67:], [[-5], [0, 1], [129], [-5]])

    def test_credit_of_one_at_8192(self):
        given = said(came(data(2, some_bytes(4096)) * 2, data(2, [1])), take(2, 8191), out(100), take(2, 1), out(100),
                     take(2, 1), out(100))
        self.assertEqual([given[2], given[4], given[6]], [[0], sent(credit(2, 8192)), [0]])

    def test_credit_of_one_above_8192(self):
        given = said(ASK, put(1, [7]), came(data(1, some_bytes(4000)) * 3), take(1, 5000), take(1, 5000), look(1),
                     out(100), take(1, GREATEST), COUNT, out(100))
        self.assertEqual(given[5:7], [[0, 1, 0, 16384, 2000, 0, 14384], sent(credit(1, 10000), data(1, [7]))])
        self.assertEqual(given[8:], [[1, 0, 0, 65535, 53536], [0]])

    def test_no_credit_of_one_behind_its_last(self):
        given = said(came(data(2, some_bytes(4096)) * 2, data(2, [], 1)), take(2, GREATEST), out(100), look(2))
        self.assertEqual(given[1][:2], [8192, 1])
        self.assertEqual(given[2:], [[0], [0, 0, 0, 16384, 0, 1, 8192]])

    def test_what_is_owed_when_the_last_comes_stays_owed(self):
        given = said(came(data(2, some_bytes(4096)) * 2), take(2, 8000), came(data(2, [], 1)), take(2, GREATEST),
                     out(100), look(2))
        self.assertEqual(given[4:], [[0], [0, 0, 0, 16384, 0, 1, 8192]])

    def test_each_exchange_owes_its_own(self):
        given = said(came(data(2, some_bytes(4096)), data(4, some_bytes(4096))), take(2, 4096), take(4, 4096), out(100))
        self.assertEqual(given[3], [0])

    def test_a_stopped_one_leaves_its_credit_to_be_sent(self):
        given = said(came(data(2, some_bytes(4096)) * 2), take(2, 8192), stop(2, 4), out(100))
        self.assertEqual(given[3], sent(credit(2, 8192), stopped(2, 4)))

    def test_the_credit_of_all_behind_many_takes(self):
        side = side_with(4)
        for number in (1, 3, 5):
            receiving.came(side, data(number, some_bytes(4096)) * 2)
            handling.take(side, number, 8192)
        self.assertEqual(sending.out(side, 100), sent(credit(1, 8192), credit(3, 8192), credit(5, 8192)))
        self.assertEqual((side.owed, side.left), (24576, 40960))
        receiving.came(side, data(7, some_bytes(4096)) * 2)
        handling.take(side, 7, 8191)
        self.assertEqual(sending.out(side, 100), [0])
        handling.take(side, 7, 1)
        self.assertEqual(sending.out(side, 100), sent(credit(7, 8192), credit(0, 32768)))
        self.assertEqual((side.owed, side.left), (0, 65536))

    def test_a_stop_gives_back_what_was_not_taken(self):
        side = side_with(1)
        receiving.came(side, data(1, some_bytes(1000)))
        handling.take(side, 1, 300)
        handling.stop(side, 1, 0)
        self.assertEqual((side.owed, side.left), (1000, 64536))


if __name__ == "__main__":
    unittest.main()
