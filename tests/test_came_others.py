"""Point 7: came, the frames credit, stopped, still?, still and going."""

import unittest

from onestream import receiving, sending
from tests.lines import (ASK, COUNT, GREATEST, OVER, begin, came, credit, data, going, look, out, pieces, put, said,
                         sent, side_with, some_bytes, still, still_answered, still_asked, stop, stopped, take, told)

NEW = [0, 0, 0, 16384, 0, 0, 16384]


def credit_of(number):
    """Reads the credit of one, or of all, out of the answers of look and count."""
    return (COUNT, 3) if number == 0 else (look(number), 3)


class Credit(unittest.TestCase):
    def test_of_one(self):
        given = said(ASK, ASK, came(credit(3, 258)), look(1), look(3), COUNT)
        self.assertEqual(given[2:], [[0], NEW, [0, 0, 0, 16642, 0, 0, 16384], [2, 0, 0, 65536, 65536]])

    def test_of_all(self):
        given = said(ASK, came(credit(0, 16909060)), look(1), COUNT)
        self.assertEqual(given[1:], [[0], NEW, [1, 0, 0, 65536 + 16909060, 65536]])

    def test_of_theirs(self):
        given = said(came(data(2, []), credit(2, 5)), look(2))
        self.assertEqual(given, [told([1, 2]), [0, 0, 0, 16389, 0, 0, 16384]])

    def test_none_more(self):
        given = said(ASK, came(credit(1, 0), credit(0, 0)), look(1), COUNT)
        self.assertEqual(given[1:], [[0], NEW, [1, 0, 0, 65536, 65536]])

    def test_up_to_the_most(self):
        for number, first in ((0, 65536), (1, 16384), (2, 16384)):
            call, place = credit_of(number)
            before = [ASK, came(data(2, []))]
            given = said(*before, came(credit(number, 2147483647 - first)), call, came(credit(number, 0)), call)
            self.assertEqual([given[2], given[3][place]], [[0], 2147483647])
            self.assertEqual([given[4], given[5][place]], [[0], 2147483647])

    def test_above_the_most(self):
        for number, first in ((0, 65536), (1, 16384), (2, 16384)):
            before = [ASK, came(data(2, []))]
            for more in (2147483648 - first, 2147483648, 4294967295):
                self.assertEqual(said(*before, came(credit(number, more)))[2], told([7, 5]))
            full = came(credit(number, 2147483647 - first))
            self.assertEqual(said(*before, full, came(credit(number, 1)))[3], told([7, 5]))

    def test_what_was_sent_makes_room_for_more(self):
        given = said(ASK, put(1, [1, 2, 3]), came(credit(1, 2147483647 - 16384)), out(100),
                     came(credit(1, 3), credit(0, 3)), look(1), COUNT, came(credit(1, 1)))
        self.assertEqual(given[4:], [[0], [0, 0, 0, 2147483647, 0, 0, 16384], [1, 0, 0, 65536, 65536], told([7, 5])])

    def test_of_one_that_was(self):
        given = said(ASK, stop(1, 0), came(stopped(4, 0)), stop(2, 0), out(100),
                     came(credit(1, 5), credit(2, 4294967295), credit(4, 7)), COUNT)
        self.assertEqual(given[5:], [[0], [0, 0, 0, 65536, 65536]])
        given = said(begin(2), ASK, stop(2, 0), came(stopped(1, 0)), came(credit(2, 5), credit(1, 4294967295)), COUNT)
        self.assertEqual(given[4:], [[0], [0, 0, 1, 65536, 65536]])

    def test_of_one_that_never_was(self):
        for number in (1, 2, 3, 4, 4294967294, 4294967295):
            for more in (0, 1, 4294967295):
                self.assertEqual(said(came(credit(number, more))), [told([7, 3])])
                self.assertEqual(said(begin(2), came(credit(number, more)))[1], told([7, 3]))
        self.assertEqual(said(ASK, came(credit(1, 1)), came(credit(3, 1)))[1:], [[0], told([7, 3])])
        self.assertEqual(said(came(data(2, []), credit(2, 1)), came(credit(4, 1)))[1], told([7, 3]))

    def test_it_lets_bytes_go(self):
        side = side_with(1)
        side.exchanges[1].waiting = some_bytes(20)
        side.exchanges[1].credit = 0
        side.credit = 0
        self.assertEqual(receiving.came(side, credit(1, 5)), [0])
        self.assertEqual(sending.out(side, 100), [0])
        self.assertEqual(receiving.came(side, credit(0, 3)), [0])
        self.assertEqual(sending.out(side, 100), sent(data(1, some_bytes(3))))
        self.assertEqual(receiving.came(side, credit(0, 100)), [0])
        self.assertEqual(sending.out(side, 100), sent(data(1, some_bytes(20)[3:5])))


class Stopped(unittest.TestCase):
    def test_ours(self):
        for why in (0, 1, 16909060, 4294967295):
            given = said(ASK, put(1, [1]), came(stopped(1, why)), look(1), put(1, [1]), take(1, 1), stop(1, 1),
                         out(100))
            self.assertEqual(given[2:], [told([4, 1, why]), [-2], [-2], [-2], [-2], [0]])

    def test_theirs(self):
        given = said(came(data(4, [1])), put(4, [5]), came(stopped(4, 9)), look(4), look(2), out(100), COUNT)
        self.assertEqual(given[2:], [told([4, 4, 9]), [-2], NEW, [0], [0, 1, 0, 65536, 65535]])

    def test_the_others_are_not_hurt(self):
        given = said(ASK, ASK, put(1, [1]), put(3, [3]), came(data(2, [2], 1), stopped(1, 7)), out(100), take(2, 9))
        self.assertEqual(given[4:], [told([1, 2], [2, 2, 1], [3, 2], [4, 1, 7]), sent(data(3, [3])), [1, 1, 2]])

    def test_of_one_that_was(self):
        given = said(ASK, came(stopped(1, 7)), came(stopped(1, 8)), came(stopped(2, 1)), came(stopped(2, 1)), COUNT)
        self.assertEqual(given[1:], [told([4, 1, 7]), [0], told([1, 2], [4, 2, 1]), [0], [0, 0, 0, 65536, 65536]])
        self.assertEqual(said(ASK, stop(1, 7), came(stopped(1, 8)), out(100))[2:], [[0], sent(stopped(1, 7))])

    def test_of_ours_not_asked_yet(self):
        for number in (1, 3, 4294967295):
            self.assertEqual(said(came(stopped(number, 0))), [told([7, 3])])
        for number in (2, 4, 4294967294):
            self.assertEqual(said(begin(2), came(stopped(number, 0)))[1], told([7, 3]))
        self.assertEqual(said(ASK, came(stopped(3, 0)))[1], told([7, 3]))

    def test_behind_its_last(self):
        self.assertEqual(said(came(data(2, [1], 1), stopped(2, 6)), take(2, 1)),
                         [told([1, 2], [2, 2, 1], [3, 2], [4, 2, 6]), [-2]])

    def test_what_was_not_taken_is_given_back(self):
        side = side_with(2)
        receiving.came(side, data(1, some_bytes(300)) + stopped(1, 5))
        self.assertEqual((side.owed, side.left), (300, 65236))
        side.owed = 32700
        receiving.came(side, data(3, some_bytes(70)) + stopped(3, 5))
        self.assertEqual((side.owed, side.left), (0, 65236 - 70 + 32770))
        self.assertEqual(sending.out(side, 100), sent(credit(0, 32770)))


class Still(unittest.TestCase):
    def test_asked(self):
        whole = [0, 8, 4, 0, 0, 0, 0, 0, 1, 2, 3, 4, 5, 6, 7, 8]
        given = said(came(whole), COUNT, out(15), out(16), out(100))
        self.assertEqual(given, [[0], [0, 0, 1, 65536, 65536], [0],
                                 [16, 0, 8, 5, 0, 0, 0, 0, 0, 1, 2, 3, 4, 5, 6, 7, 8], [0]])

    def test_asked_all_tokens(self):
        for token in (0, 1, 255, 256, 9223372036854775808, GREATEST):
            self.assertEqual(said(came(still_asked(token)), out(100)), [[0], sent(still_answered(token))])

    def test_answered(self):
        self.assertEqual(said(came([0, 8, 5, 0, 0, 0, 0, 0, 1, 2, 3, 4, 5, 6, 7, 8]), out(100)),
                         [told([6, 72623859790382856]), [0]])
        for token in (0, 1, 255, 256, 9223372036854775808, GREATEST):
            self.assertEqual(said(came(still_answered(token))), [told([6, token])])

    def test_in_their_order_and_ahead_of_data(self):
        given = said(ASK, ASK, put(1, [1]), came(still_asked(7)), stop(3, 3), came(still_asked(6)), still(5), out(100))
        self.assertEqual(given[7], sent(still_answered(7), stopped(3, 3), still_answered(6), still_asked(5),
                                        data(1, [1])))


class Going(unittest.TestCase):
    def test_ours_above_it_are_gone(self):
        given = said(ASK, ASK, ASK, ASK, put(3, [3]), put(7, [7]), came(going(3)), COUNT, look(3), look(5), look(7),
                     out(100))
        self.assertEqual(given[6:], [told([5, 3], [4, 5, 4294967295], [4, 7, 4294967295]), [2, 0, 0, 65536, 65536],
                                     [0, 1, 0, 16384, 0, 0, 16384], [-2], [-2], sent(data(3, [3]))])

    def test_the_number_may_be_any(self):
        lost = {0: [1, 3, 5], 1: [3, 5], 2: [3, 5], 4: [5], 5: [], 6: [], 4294967295: []}
        for number, gone in lost.items():
            given = said(ASK, ASK, ASK, came(going(number)), ASK)
            self.assertEqual(given[3:], [told([5, number], *[[4, one, 4294967295] for one in gone]), [-6]])

    def test_theirs_stay(self):
        given = said(ASK, came(data(4, [1])), came(going(0)), look(2), look(4), COUNT)
        self.assertEqual(given[2:], [told([5, 0], [4, 1, 4294967295]), NEW, [0, 0, 0, 16384, 1, 0, 16383],
                                     [0, 2, 0, 65536, 65535]])

    def test_side_2(self):
        given = said(begin(2), ASK, ASK, ASK, came(data(9, [])), came(going(2)), COUNT, ASK)
        self.assertEqual(given[5:], [told([5, 2], [4, 4, 4294967295], [4, 6, 4294967295]), [1, 5, 0, 65536, 65536],
                                     [-6]])

    def test_ask_is_refused_from_then_on(self):
        given = said(came(going(0)), ASK, out(100), ASK, COUNT)
        self.assertEqual(given, [told([5, 0]), [-6], [0], [-6], [0, 0, 0, 65536, 65536]])
        given = said(*[ASK] * 64, came(going(127)), ASK)
        self.assertEqual(given[64:], [told([5, 127]), [-6]])

    def test_what_stays_goes_on(self):
        given = said(ASK, came(going(1)), put(1, [1], 1), out(100), came(data(1, [2], 1)), take(1, 9), take(1, 9))
        self.assertEqual(given[1:], [told([5, 1]), [1], sent(data(1, [1], 1)), told([2, 1, 1], [3, 1]), [1, 1, 2],
                                     [-2]])

    def test_a_second_one(self):
        given = said(ASK, ASK, ASK, came(going(3)), came(going(0)), came(going(9)), ASK)
        self.assertEqual(given[3:], [told([5, 3], [4, 5, 4294967295]), told([5, 0], [4, 1, 4294967295],
                                                                            [4, 3, 4294967295]), told([5, 9]), [-6]])

    def test_a_lost_one_was(self):
        given = said(ASK, came(going(0)), came(data(1, [1]), credit(1, 1), stopped(1, 1)), COUNT, came(data(3, [])))
        self.assertEqual(given[2:], [[0], [0, 0, 0, 65536, 65535], told([7, 3])])

    def test_the_other_calls_are_not_refused(self):
        given = said(came(going(0)), still(1), OVER, came(data(2, [1])), out(100))
        self.assertEqual(given[1:4], [[0], [0], [0]])
        self.assertEqual(given[4], sent(still_asked(1), going(0), stopped(2, 1)))

    def test_what_was_not_taken_is_given_back(self):
        side = side_with(3)
        receiving.came(side, data(1, [1]) + data(3, [1, 2]) + data(5, [1, 2, 3]))
        receiving.came(side, going(1))
        self.assertEqual((side.owed, side.left), (5, 65530))
        side = side_with(2)
        side.owed = 32766
        receiving.came(side, data(1, [1]) + data(3, [1, 2, 3]) + going(0))
        self.assertEqual((side.owed, side.left), (0, 65532 + 32770))
        self.assertEqual(pieces(sending.out(side, 100)), [(2, 0, 0, 4)])


if __name__ == "__main__":
    unittest.main()
