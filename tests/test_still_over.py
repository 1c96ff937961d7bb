"""Points 8 and 9: still and over."""

import unittest

from onestream import stream
from onestream.side import Side
from tests.lines import (ASK, COUNT, GREATEST, OVER, begin, came, data, going, out, put, said, sent, still,
                         still_answered, still_asked, stop, stopped, take, told)


class Still(unittest.TestCase):
    def test_its_frame(self):
        given = said(still(72623859790382856), COUNT, out(100), out(100))
        self.assertEqual(given, [[0], [0, 0, 1, 65536, 65536],
                                 [16, 0, 8, 4, 0, 0, 0, 0, 0, 1, 2, 3, 4, 5, 6, 7, 8], [0]])

    def test_tokens(self):
        for token in (0, 1, 256, 4294967296, 9223372036854775808, GREATEST):
            self.assertEqual(said(still(token), out(100)), [[0], sent(still_asked(token))])

    def test_a_token_of_2_to_the_64(self):
        side = Side(1)
        self.assertEqual(stream.still(side, GREATEST + 1), [-1])
        self.assertEqual(side.first, [])
        self.assertEqual(stream.still(side, GREATEST), [0])
        side.die()
        self.assertEqual(stream.still(side, GREATEST + 1), [-6])

    def test_several(self):
        given = said(ASK, put(1, [1]), still(4), still(4), still(3), out(100))
        self.assertEqual(given[5], sent(still_asked(4), still_asked(4), still_asked(3), data(1, [1])))

    def test_its_answer_is_not_waited_for(self):
        self.assertEqual(said(came(still_answered(5)), still(6), came(still_answered(7))),
                         [told([6, 5]), [0], told([6, 7])])

    def test_dead(self):
        self.assertEqual(said(came(data(1, [])), still(1), out(100)), [told([7, 3]), [-6], [0]])


class Over(unittest.TestCase):
    def test_none_came(self):
        for which in (1, 2):
            given = said(begin(which), OVER, COUNT, out(100))
            self.assertEqual(given[1:], [[0], [0, 0, 1, 65536, 65536], [12, 0, 4, 6, 0, 0, 0, 0, 0, 0, 0, 0, 0]])

    def test_the_greatest_that_came(self):
        for greatest in (2, 4, 128):
            self.assertEqual(said(came(data(greatest, [])), OVER, out(100))[1:], [[0], sent(going(greatest))])
        for greatest in (1, 3, 127):
            self.assertEqual(said(begin(2), came(data(greatest, [])), OVER, out(100))[2:], [[0], sent(going(greatest))])

    def test_the_greatest_counts_when_it_is_gone(self):
        self.assertEqual(said(came(stopped(6, 0)), OVER, out(100))[2], sent(going(6)))
        self.assertEqual(said(came(data(128, [])), came(data(130, [])), OVER, out(100))[3],
                         sent(stopped(130, 2), going(130)))

    def test_the_greatest_when_it_was_called(self):
        given = said(came(data(2, [])), OVER, came(data(6, [])), out(100))
        self.assertEqual(given[3], sent(going(2), stopped(4, 1), stopped(6, 1)))

    def test_ours_do_not_matter(self):
        self.assertEqual(said(ASK, ASK, OVER, out(100))[2:], [[0], sent(going(0))])

    def test_a_second_one(self):
        given = said(OVER, OVER, out(100), OVER, out(100))
        self.assertEqual(given, [[0], [-4], sent(going(0)), [-4], [0]])

    def test_dead(self):
        self.assertEqual(said(came(data(1, [])), OVER, out(100)), [told([7, 3]), [-6], [0]])

    def test_what_was_there_goes_on(self):
        given = said(ASK, came(data(2, [2])), OVER, put(1, [1], 1), put(2, [3], 1), out(100),
                     came(data(1, [4], 1), data(2, [], 1)), take(1, 9), take(2, 9), COUNT)
        self.assertEqual(given[5:], [sent(going(2), data(1, [1], 1), data(2, [3], 1)),
                                     told([2, 1, 1], [3, 1], [3, 2]), [1, 1, 4], [1, 1, 2], [0, 0, 0, 65534, 65534]])

    def test_ours_can_still_be_asked(self):
        self.assertEqual(said(OVER, ASK, put(1, [1]), stop(1, 2), out(100))[1:], [[1], [1], [0],
                                                                                sent(going(0), stopped(1, 2))])

    def test_a_begin_takes_it_back(self):
        self.assertEqual(said(OVER, begin(1), out(100), came(data(2, [])), OVER)[1:], [[0], [0], told([1, 2]), [0]])


if __name__ == "__main__":
    unittest.main()
