"""Point 7: what every call answers when it's dead."""

import unittest

from tests.lines import (ASK, COUNT, GREATEST, OVER, begin, came, credit, data, frame, going, look, out, put, said,
                         sent, still, still_asked, stop, stopped, take, told)

# One wrong frame of each sort, where 1 was asked and 2 came with its last.
WRONGS = (([16, 1, 1, 0, 0, 0, 0, 2], 1), (frame(7, 0, 0, []), 2), (frame(4, 2, 0, []), 2), (data(3, []), 3),
          (credit(3, 0), 3), (stopped(3, 0), 3), (data(132, []), 3), (credit(0, 2147483647), 5),
          (credit(1, 2147483647), 5), (data(2, []), 6))

BEFORE = [ASK, put(1, [5, 6]), came(data(2, [1, 2], 1)), put(2, [7], 1), still(8), came(still_asked(9))]

LEN = len(BEFORE)


def behind(bad, *calls):
    return said(*BEFORE, came(bad), *calls)[LEN:]


class Dead(unittest.TestCase):
    def test_it_is_told(self):
        for bad, k in WRONGS:
            self.assertEqual(behind(bad), [told([7, k])])

    def test_out_gives_nothing(self):
        for bad, k in WRONGS:
            self.assertEqual(behind(bad, out(0), out(100), out(GREATEST)), [told([7, k]), [0], [0], [0]])

    def test_refused_with_6(self):
        for bad, k in WRONGS:
            given = behind(bad, came([1]), came(data(2, [1])), came(going(0)), ASK, still(0), still(GREATEST), OVER,
                           OVER)
            self.assertEqual(given, [told([7, k])] + [[-6]] * 8)

    def test_no_exchanges(self):
        for bad, k in WRONGS:
            for number in (0, 1, 2, 3, GREATEST):
                given = behind(bad, put(number, [1]), put(number, [1], 1), take(number, 9), look(number),
                               stop(number, 4294967295))
                self.assertEqual(given, [told([7, k])] + [[-2]] * 5)

    def test_a_wrong_argument_is_told_first(self):
        given = behind(data(3, []), put(1, [1], 2), stop(1, 4294967296), begin(3))
        self.assertEqual(given[1:], [[-1], [-1], [-1]])

    def test_over_ahead_of_it(self):
        self.assertEqual(said(OVER, came(data(1, [])), OVER), [[0], told([7, 3]), [-6]])

    def test_count(self):
        for bad, k in WRONGS:
            self.assertEqual(behind(bad, COUNT, out(100), COUNT)[1:], [[0, 0, 0, 65536, 65534], [0],
                                                                       [0, 0, 0, 65536, 65534]])

    def test_a_begin_makes_all_new(self):
        for bad, k in WRONGS:
            for which in (1, 2):
                theirs = 3 - which
                given = behind(bad, begin(which), COUNT, came(data(theirs, [4])), take(theirs, 9), ASK, still(3), OVER,
                               out(100))
                self.assertEqual(given[1:], [[0], [0, 0, 0, 65536, 65536], told([1, theirs], [2, theirs, 1]), [1, 0, 4],
                                             [which], [0], [0], sent(still_asked(3), going(theirs))])

    def test_a_refused_begin_leaves_it_dead(self):
        given = behind(data(3, []), begin(0), ASK, came([0]), COUNT)
        self.assertEqual(given[1:], [[-1], [-6], [-6], [0, 0, 0, 65536, 65534]])


if __name__ == "__main__":
    unittest.main()
