"""Point 1: begin."""

import unittest

from tests.lines import ASK, GREATEST, begin, out, put, said, sent, stop, stopped, data


class Begin(unittest.TestCase):
    def test_both_sides(self):
        self.assertEqual(said(begin(1), ASK), [[0], [1]])
        self.assertEqual(said(begin(2), ASK), [[0], [2]])

    def test_without_begin_it_is_side_1(self):
        self.assertEqual(said(ASK, ASK), [[1], [3]])

    def test_other_sides_are_refused(self):
        for which in (0, 3, 4, 256, GREATEST):
            self.assertEqual(said(begin(which)), [[-1]])

    def test_a_refused_begin_changes_nothing(self):
        for which in (0, 3, GREATEST):
            told = said(begin(2), ASK, put(2, [9, 8]), stop(2, 5), ASK, put(4, [7]), begin(which), ASK, out(100))
            self.assertEqual(told[6], [-1])
            self.assertEqual(told[7], [6])
            self.assertEqual(told[8], sent(stopped(2, 5), data(4, [7])))

    def test_a_begin_in_the_midst_makes_all_new(self):
        told = said(ASK, ASK, put(1, [1, 2]), stop(3, 4), begin(1), out(1000), put(1, [1]), ASK, out(1000))
        self.assertEqual(told[4:], [[0], [0], [-2], [1], [0]])

    def test_a_begin_may_change_the_side(self):
        told = said(ASK, put(1, [1]), begin(2), put(1, [1]), ASK, begin(1), put(2, [1]), ASK)
        self.assertEqual(told, [[1], [1], [0], [-2], [2], [0], [-2], [1]])

    def test_a_begin_makes_the_turns_new(self):
        three = [ASK, ASK, put(1, [1, 1]), put(3, [3, 3])]
        told = said(*three, out(9), begin(1), *three, out(9))
        self.assertEqual(told[4], sent(data(1, [1])))
        self.assertEqual(told[-1], sent(data(1, [1])))


if __name__ == "__main__":
    unittest.main()
