"""Point 7: came, what the other asks anew."""

import unittest

from onestream import receiving, sending
from tests.lines import (ASK, COUNT, GREATEST, OVER, asked_anew, begin, came, credit, data, going, joined, look, out,
                         put, said, sent, side_with, some_bytes, stop, stopped, take, told)


def theirs(which, how_many):
    """The first numbers of the other of that side."""
    return [3 - which + 2 * k for k in range(how_many)]


class Anew(unittest.TestCase):
    def test_the_number_behind_the_greatest(self):
        for which in (1, 2):
            one, two, three = theirs(which, 3)
            given = said(begin(which), came(data(one, [1])), came(data(two, [], 1)), came(stopped(three, 5)), COUNT)
            self.assertEqual(given[1:], [told([1, one], [2, one, 1]), told([1, two], [3, two]),
                                         told([1, three], [4, three, 5]), [0, 2, 0, 65536, 65535]])

    def test_one_further_on_by_data(self):
        for which in (1, 2):
            numbers = theirs(which, 5)
            given = said(begin(which), came(data(numbers[4], [7, 7])), *[look(number) for number in numbers], COUNT)
            self.assertEqual(given[1], told(*asked_anew(numbers), [2, numbers[4], 2]))
            self.assertEqual(given[2:6], [[0, 0, 0, 16384, 0, 0, 16384]] * 4)
            self.assertEqual(given[6:], [[0, 0, 0, 16384, 2, 0, 16382], [0, 5, 0, 65536, 65534]])

    def test_one_further_on_by_a_stop(self):
        for which in (1, 2):
            numbers = theirs(which, 3)
            given = said(begin(which), came(stopped(numbers[2], 9)), *[look(number) for number in numbers])
            self.assertEqual(given[1], told(*asked_anew(numbers), [4, numbers[2], 9]))
            self.assertEqual(given[2:], [[0, 0, 0, 16384, 0, 0, 16384]] * 2 + [[-2]])

    def test_from_the_greatest_on(self):
        given = said(came(data(4, [])), came(data(2, [1])), came(data(10, [])), came(data(8, [], 1)))
        self.assertEqual(given, [told([1, 2], [1, 4]), told([2, 2, 1]), told([1, 6], [1, 8], [1, 10]), told([3, 8])])

    def test_the_greatest_stays_when_it_is_gone(self):
        given = said(came(stopped(4, 0)), stop(2, 0), came(data(6, [])), came(data(4, [1])))
        self.assertEqual(given, [told([1, 2], [1, 4], [4, 4, 0]), [0], told([1, 6]), [0]])

    def test_they_can_be_answered(self):
        given = said(came(data(4, [1], 1)), put(2, [5]), put(4, [6], 1), out(100), stop(2, 3), take(4, 9), out(100),
                     look(4), look(2))
        self.assertEqual(given[1:], [[1], [1], sent(data(2, [5]), data(4, [6], 1)), [0], [1, 1, 1],
                                     sent(stopped(2, 3)), [-2], [-2]])

    def test_ours_do_not_matter(self):
        given = said(*[ASK] * 64, came(data(128, [])), ASK, COUNT)
        self.assertEqual(given[64:], [told(*asked_anew(theirs(1, 64))), [-5], [64, 64, 0, 65536, 65536]])


class HowMany(unittest.TestCase):
    def test_64_at_once(self):
        for which in (1, 2):
            numbers = theirs(which, 64)
            given = said(begin(which), came(data(numbers[63], [])), COUNT)
            self.assertEqual(given[1:], [told(*asked_anew(numbers)), [0, 64, 0, 65536, 65536]])
            given = said(begin(which), came(stopped(numbers[63], 8)), COUNT)
            self.assertEqual(given[1:], [told(*asked_anew(numbers), [4, numbers[63], 8]), [0, 63, 0, 65536, 65536]])

    def test_65_at_once(self):
        for which in (1, 2):
            number = theirs(which, 65)[64]
            for bad in (data(number, []), data(number, [1], 1), stopped(number, 0)):
                self.assertEqual(said(begin(which), came(bad), COUNT)[1:], [told([7, 3]), [0, 0, 0, 65536, 65536]])

    def test_65_at_once_behind_the_greatest(self):
        given = said(came(data(2, []), stopped(2, 0)), came(data(130, [])))
        self.assertEqual(given[1], told(*asked_anew(range(4, 131, 2))))
        given = said(came(data(2, []), stopped(2, 0)), came(data(132, [])))
        self.assertEqual(given[1], told([7, 3]))

    def test_the_greatest_numbers(self):
        self.assertEqual(said(came(data(4294967294, []))), [told([7, 3])])
        self.assertEqual(said(begin(2), came(stopped(4294967295, 0)))[1], told([7, 3]))
        for which, greatest in ((1, 4294967294), (2, 4294967295)):
            side = side_with(0)
            side.which = which
            side.to_come = greatest - 2
            self.assertEqual(receiving.came(side, data(greatest, [1])),
                             told([1, greatest - 2], [1, greatest], [2, greatest, 1]))
            self.assertEqual(receiving.came(side, data(greatest, [], 1)), told([3, greatest]))

    def test_65_at_once_while_we_are_going(self):
        self.assertEqual(said(OVER, came(data(130, []))), [[0], told([7, 3])])


class Full(unittest.TestCase):
    def test_the_65th(self):
        for which in (1, 2):
            numbers = theirs(which, 66)
            given = said(begin(which), came(data(numbers[63], [])), came(data(numbers[65], [1, 2])), COUNT, out(100),
                         came(data(numbers[65], [3], 1)), came(stopped(numbers[65], 7)), COUNT, look(numbers[65]))
            self.assertEqual(given[2:], [[0], [0, 64, 2, 65536, 65534],
                                         sent(stopped(numbers[64], 2), stopped(numbers[65], 2)),
                                         [0], [0], [0, 64, 0, 65536, 65533], [-2]])

    def test_the_65th_by_a_stop(self):
        given = said(came(data(128, [])), came(stopped(130, 4)), out(100), COUNT)
        self.assertEqual(given[1:], [[0], sent(stopped(130, 2)), [0, 64, 0, 65536, 65536]])

    def test_some_have_room(self):
        given = said(came(data(124, [])), came(data(134, [5], 1)), out(100), COUNT)
        self.assertEqual(given[1:], [told([1, 126], [1, 128]),
                                     sent(stopped(130, 2), stopped(132, 2), stopped(134, 2)),
                                     [0, 64, 0, 65536, 65535]])

    def test_the_other_asks_64_more(self):
        given = said(came(data(126, [])), came(data(254, [])), COUNT, out(GREATEST))
        self.assertEqual(given[1:], [told([1, 128]), [0, 64, 63, 65536, 65536],
                                     sent(*[stopped(number, 2) for number in range(130, 255, 2)])])

    def test_one_that_is_gone_makes_room(self):
        for goes in (stop(6, 0), came(stopped(6, 0))):
            given = said(came(data(128, [])), goes, came(data(130, [])), came(data(132, [])), COUNT)
            self.assertEqual(given[2:4], [told([1, 130]), [0]])
            self.assertEqual(given[4][:2], [0, 64])

    def test_a_done_one_makes_room_once_it_is_gone(self):
        given = said(came(data(128, []), data(6, [], 1)), put(6, [1], 1), out(100), came(data(130, [])), take(6, 1),
                     came(data(132, [])), COUNT)
        self.assertEqual(given[3:], [[0], [0, 1], told([1, 132]), [0, 64, 1, 65535, 65536]])

    def test_what_is_given_back(self):
        side = side_with(0)
        receiving.came(side, data(128, []))
        receiving.came(side, data(130, some_bytes(4096)) * 8)
        self.assertEqual((side.owed, side.left), (0, 65536))
        self.assertEqual(sending.out(side, 100), sent(stopped(130, 2), credit(0, 32768)))

    def test_more_than_is_left_of_all(self):
        side = side_with(0)
        receiving.came(side, data(128, []))
        side.left = 1
        self.assertEqual(receiving.came(side, data(130, [1, 2])), told([7, 4]))


class WhileWeAreGoing(unittest.TestCase):
    def test_each_is_stopped(self):
        for which in (1, 2):
            numbers = theirs(which, 5)
            given = said(begin(which), came(data(numbers[1], [])), OVER, came(data(numbers[4], [1, 2], 1)), out(100),
                         came(data(numbers[4], [3])), came(stopped(numbers[2], 9)), COUNT, look(numbers[2]))
            self.assertEqual(given[3:], [[0], sent(going(numbers[1]), *[stopped(one, 1) for one in numbers[2:]]),
                                         [0], [0], [0, 2, 0, 65536, 65533], [-2]])

    def test_by_a_stop(self):
        given = said(OVER, came(stopped(4, 9)), out(100), COUNT)
        self.assertEqual(given[1:], [[0], sent(going(0), stopped(2, 1), stopped(4, 1)), [0, 0, 0, 65536, 65536]])

    def test_going_is_told_ahead_of_full(self):
        given = said(came(data(128, [])), OVER, came(data(130, [])), out(100))
        self.assertEqual(given[2:], [[0], sent(going(128), stopped(130, 1))])

    def test_what_was_there_goes_on(self):
        given = said(came(data(2, [1])), OVER, came(data(2, [2], 1)), put(2, [3], 1), take(2, 9), out(100), look(2))
        self.assertEqual(given[2:], [told([2, 2, 1], [3, 2]), [1], [2, 1, 1, 2], sent(going(2), data(2, [3], 1)), [-2]])

    def test_the_other_going_does_not_stop_what_it_asks(self):
        self.assertEqual(said(came(going(0)), came(data(2, [1]))), [told([5, 0]), told([1, 2], [2, 2, 1])])


class Many(unittest.TestCase):
    def test_many_that_have_no_room(self):
        # Each frame asks 64 numbers anew that have no room.
        frames = [data(2 + 128 * k - 2, []) for k in range(1, 1500)]
        given = said(came(joined(frames)), COUNT)
        self.assertEqual(given[0], told(*asked_anew(theirs(1, 64))))
        self.assertEqual(given[1], [0, 64, 1498 * 64, 65536, 65536])


if __name__ == "__main__":
    unittest.main()
