"""Point 2: ask."""

import unittest

from onestream.handling import ask, put
from onestream.side import Side
from tests.lines import ASK, begin, out, said, side_with, stop


class Ask(unittest.TestCase):
    def test_the_numbers_of_both_sides(self):
        self.assertEqual(said(*[ASK] * 64), [[1 + 2 * k] for k in range(64)])
        self.assertEqual(said(begin(2), *[ASK] * 64)[1:], [[2 + 2 * k] for k in range(64)])

    def test_the_65th_is_refused(self):
        self.assertEqual(said(*[ASK] * 66)[63:], [[127], [-5], [-5]])
        self.assertEqual(said(begin(2), *[ASK] * 66)[64:], [[128], [-5], [-5]])

    def test_a_stop_makes_room_and_no_number_comes_twice(self):
        told = said(*[ASK] * 65, stop(5, 0), ASK, ASK, stop(129, 0), stop(1, 0), ASK, ASK, ASK)
        self.assertEqual(told[64:], [[-5], [0], [129], [-5], [0], [0], [131], [133], [-5]])

    def test_a_stop_of_the_newest_does_not_free_its_number(self):
        self.assertEqual(said(ASK, stop(1, 0), ASK, out(0), ASK), [[1], [0], [3], [0], [5]])

    def test_the_others_do_not_count_as_ours(self):
        side = side_with(63)
        for number in range(2, 130, 2):
            side.add_exchange(number)
        self.assertEqual(ask(side), [127])
        self.assertEqual(ask(side), [-5])

    def test_ours_of_side_2_are_the_even_ones(self):
        side = Side(2)
        for number in range(1, 129, 2):
            side.add_exchange(number)
        self.assertEqual(ask(side), [2])

    def test_dead_or_the_other_going_is_refused_first(self):
        for how_many in (0, 64):
            dead = side_with(how_many)
            dead.dead = True
            self.assertEqual(ask(dead), [-6])
            going = side_with(how_many)
            going.other_going = True
            self.assertEqual(ask(going), [-6])
            self.assertEqual(len(going.exchanges), how_many)

    def test_the_last_numbers_below_2_to_the_32(self):
        for which, least in ((1, 4294967293), (2, 4294967292)):
            side = Side(which)
            side.to_ask = least
            told = [ask(side) for _ in range(4)]
            self.assertEqual(told, [[least], [least + 2], [-6], [-6]])
            self.assertEqual(put(side, least + 2, 0, [1]), [1])

    def test_no_more_numbers_is_told_before_no_room(self):
        side = side_with(64)
        self.assertEqual(ask(side), [-5])
        side.to_ask = 4294967297
        self.assertEqual(ask(side), [-6])


if __name__ == "__main__":
    unittest.main()
