"""Point 7: came, data."""

import unittest

from onestream import handling, receiving, sending
from tests.lines import (ASK, COUNT, GREATEST, begin, came, credit, data, look, out, put, said, sent, side_with,
                         some_bytes, stop, stopped, take, told)


def done_with(number):
    """The calls behind which an exchange that came with its last is gone."""
    return [put(number, [9], 1), out(GREATEST), take(number, GREATEST)]


class There(unittest.TestCase):
    def test_what_is_told(self):
        self.assertEqual(said(ASK, came(data(1, [5, 6, 7])))[1], told([2, 1, 3]))
        self.assertEqual(said(ASK, came(data(1, [], 1)))[1], told([3, 1]))
        self.assertEqual(said(ASK, came(data(1, [5], 1)))[1], told([2, 1, 1], [3, 1]))
        self.assertEqual(said(ASK, came(data(1, [])))[1], [0])

    def test_what_is_told_of_theirs(self):
        given = said(came(data(2, [5])), came(data(2, [])), came(data(2, [6, 7])), came(data(2, [], 1)))
        self.assertEqual(given, [told([1, 2], [2, 2, 1]), [0], told([2, 2, 2]), told([3, 2])])

    def test_side_2(self):
        given = said(begin(2), ASK, came(data(2, [1, 2], 1)), came(data(1, [3], 1)), take(2, 9), take(1, 9))
        self.assertEqual(given[2:], [told([2, 2, 2], [3, 2]), told([1, 1], [2, 1, 1], [3, 1]), [2, 1, 1, 2], [1, 1, 3]])

    def test_each_exchange_has_its_own_bytes(self):
        given = said(ASK, ASK, came(data(3, [3]), data(1, [1]), data(3, [4]), data(2, [2])), take(1, 9), take(2, 9),
                     take(3, 9))
        self.assertEqual(given[2:], [told([2, 3, 1], [2, 1, 1], [2, 3, 1], [1, 2], [2, 2, 1]), [1, 0, 1], [1, 0, 2],
                                     [2, 0, 3, 4]])

    def test_bytes_from_0_to_255(self):
        self.assertEqual(said(came(data(2, list(range(256)))), take(2, 256))[1], [256, 0] + list(range(256)))

    def test_less_is_left_of_it_and_of_all(self):
        given = said(ASK, came(data(1, some_bytes(100)), data(2, [1])), look(1), look(2), COUNT)
        self.assertEqual(given[2:], [[0, 0, 0, 16384, 100, 0, 16284], [0, 0, 0, 16384, 1, 0, 16383],
                                     [1, 1, 0, 65536, 65435]])


class BehindItsLast(unittest.TestCase):
    def test_wrong_6(self):
        for behind in (data(1, []), data(1, [1]), data(1, [], 1), data(1, [1, 2], 1)):
            self.assertEqual(said(ASK, came(data(1, [1], 1)), came(behind))[2], told([7, 6]))
            self.assertEqual(said(ASK, came(data(1, [], 1)), take(1, 9), came(behind))[3], told([7, 6]))

    def test_wrong_6_of_theirs(self):
        self.assertEqual(said(came(data(2, [], 1), data(2, [])))[0], told([1, 2], [3, 2], [7, 6]))

    def test_ours_may_be_ended(self):
        given = said(ASK, put(1, [1], 1), out(100), came(data(1, [5])), came(data(1, [6], 1)))
        self.assertEqual(given[3:], [told([2, 1, 1]), told([2, 1, 1], [3, 1])])

    def test_wrong_6_ahead_of_4(self):
        side = side_with(1)
        side.exchanges[1].last_came = True
        side.exchanges[1].left = 0
        side.left = 0
        self.assertEqual(receiving.came(side, data(1, [1])), told([7, 6]))


class MoreThanIsLeft(unittest.TestCase):
    def test_of_it(self):
        side = side_with(2)
        for _ in range(4):
            self.assertEqual(receiving.came(side, data(1, some_bytes(4096))), told([2, 1, 4096]))
        self.assertEqual((side.exchanges[1].left, side.left), (0, 49152))
        self.assertEqual(receiving.came(side, data(1, [])), [0])
        self.assertEqual(receiving.came(side, data(3, [1])), told([2, 3, 1]))
        self.assertEqual(receiving.came(side, data(1, [1])), told([7, 4]))
        self.assertTrue(side.dead)

    def test_as_much_as_is_left_of_it(self):
        for size, thing in ((10, [2, 1, 10]), (11, [7, 4])):
            side = side_with(1)
            side.exchanges[1].left = 10
            self.assertEqual(receiving.came(side, data(1, some_bytes(size))), told(thing))

    def test_as_much_as_is_left_of_all(self):
        for size, thing in ((10, [2, 1, 10]), (11, [7, 4])):
            side = side_with(1)
            side.left = 10
            self.assertEqual(receiving.came(side, data(1, some_bytes(size))), told(thing))
            self.assertEqual(side.left, 0 if size == 10 else 10)

    def test_of_all_over_many(self):
        side = side_with(5)
        for number in (1, 3, 5, 7):
            receiving.came(side, data(number, some_bytes(4096)) * 4)
        self.assertEqual(side.left, 0)
        self.assertEqual(receiving.came(side, data(9, [1])), told([7, 4]))

    def test_of_one_asked_anew_by_it(self):
        side = side_with(0)
        side.left = 3
        self.assertEqual(receiving.came(side, data(4, [1, 2, 3, 4])), told([1, 2], [1, 4], [7, 4]))

    def test_the_last_is_not_told_of_it(self):
        side = side_with(1)
        side.left = 1
        self.assertEqual(receiving.came(side, data(1, [1, 2], 1)), told([7, 4]))

    def test_taken_bytes_make_room(self):
        side = side_with(1)
        receiving.came(side, data(1, some_bytes(4096)) * 4)
        handling.take(side, 1, 8192)
        self.assertEqual(receiving.came(side, data(1, some_bytes(4096)) * 2), told([2, 1, 4096], [2, 1, 4096]))
        self.assertEqual(receiving.came(side, data(1, [1])), told([7, 4]))


class OfOneThatWas(unittest.TestCase):
    def test_ours_stopped(self):
        given = said(ASK, stop(1, 0), came(data(1, some_bytes(50))), came(data(1, [1], 1)), came(data(1, [1], 1)),
                     COUNT, out(100))
        self.assertEqual(given[2:], [[0], [0], [0], [0, 0, 1, 65536, 65484], sent(stopped(1, 0))])

    def test_theirs_stopped(self):
        given = said(came(data(2, [1])), stop(2, 0), came(data(2, [1, 2], 1)), COUNT, take(2, 1), look(2))
        self.assertEqual(given[1:], [[0], [0], [0, 0, 1, 65536, 65533], [-2], [-2]])

    def test_stopped_by_the_other(self):
        given = said(ASK, came(stopped(1, 0), stopped(2, 0)), came(data(1, [1], 1), data(2, [2], 1)), COUNT)
        self.assertEqual(given[2:], [[0], [0, 0, 0, 65536, 65534]])

    def test_done_with(self):
        given = said(ASK, came(data(1, [1], 1)), *done_with(1), came(data(1, [1, 2])), COUNT)
        self.assertEqual(given[4:], [[1, 1, 1], [0], [0, 0, 0, 65535, 65533]])
        given = said(came(data(2, [1], 1)), *done_with(2), came(data(2, [1, 2], 1)), COUNT)
        self.assertEqual(given[3:], [[1, 1, 1], [0], [0, 0, 0, 65535, 65533]])

    def test_it_is_not_asked_anew(self):
        given = said(came(data(6, [])), stop(2, 0), stop(6, 0), came(data(2, [1]), data(6, [1])), COUNT)
        self.assertEqual(given[3:], [[0], [0, 1, 2, 65536, 65534]])

    def test_side_2(self):
        given = said(begin(2), ASK, came(data(3, [])), stop(2, 0), stop(1, 0), came(data(2, [1]), data(1, [2])), COUNT)
        self.assertEqual(given[5:], [[0], [0, 1, 2, 65536, 65534]])

    def test_it_is_given_back(self):
        side = side_with(1)
        handling.stop(side, 1, 0)
        receiving.came(side, data(1, some_bytes(4096)) * 7 + data(1, some_bytes(4095)))
        self.assertEqual((side.owed, side.left), (32767, 32769))
        receiving.came(side, data(1, [1, 2]))
        self.assertEqual((side.owed, side.left), (0, 65536))
        self.assertEqual(sending.out(side, 100), sent(stopped(1, 0), credit(0, 32769)))

    def test_more_than_is_left_of_all(self):
        for size, given in ((10, [0]), (11, told([7, 4]))):
            side = side_with(1)
            handling.stop(side, 1, 0)
            side.left = 10
            self.assertEqual(receiving.came(side, data(1, some_bytes(size))), given)

    def test_what_was_left_of_it_does_not_matter(self):
        side = side_with(1)
        receiving.came(side, data(1, some_bytes(4096)) * 4)
        handling.stop(side, 1, 0)
        self.assertEqual(receiving.came(side, data(1, some_bytes(4096))), [0])


class OfOursNotAskedYet(unittest.TestCase):
    def test_wrong_3(self):
        for number in (1, 3, 4294967295):
            self.assertEqual(said(came(data(number, [1]))), [told([7, 3])])
        for number in (3, 5, 4294967295):
            self.assertEqual(said(ASK, came(data(number, [])))[1], told([7, 3]))
        for number in (2, 4, 4294967294):
            self.assertEqual(said(begin(2), came(data(number, [], 1)))[1], told([7, 3]))
        self.assertEqual(said(begin(2), ASK, came(data(2, [])), came(data(4, [])))[2:], [[0], told([7, 3])])

    def test_a_stop_does_not_take_back_the_asking(self):
        self.assertEqual(said(ASK, ASK, stop(3, 0), came(data(3, [1])), came(data(5, [1])))[3:], [[0], told([7, 3])])


if __name__ == "__main__":
    unittest.main()
