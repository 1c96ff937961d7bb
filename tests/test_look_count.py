"""Points 10 and 11: look and count."""

import unittest

from onestream import handling, receiving, sending
from tests.lines import (ASK, COUNT, GREATEST, OVER, begin, came, credit, data, going, look, out, put, said, side_with,
                         some_bytes, still, still_asked, stop, stopped, take)

NEW = [0, 0, 0, 16384, 0, 0, 16384]


class Look(unittest.TestCase):
    def test_a_new_one(self):
        self.assertEqual(said(ASK, look(1))[1], NEW)
        self.assertEqual(said(came(data(2, [])), look(2))[1], NEW)
        self.assertEqual(said(begin(2), ASK, came(data(1, [])), look(1), look(2))[3:], [NEW, NEW])

    def test_how_many_wait(self):
        given = said(ASK, put(1, [1, 2, 3]), look(1), out(10), look(1), out(100), look(1))
        self.assertEqual([given[2], given[4], given[6]], [[0, 3, 0, 16384, 0, 0, 16384], [0, 1, 0, 16382, 0, 0, 16384],
                                                          [0, 0, 0, 16381, 0, 0, 16384]])

    def test_ended_and_sent(self):
        given = said(ASK, put(1, [1, 2], 1), look(1), out(9), look(1), out(9), look(1))
        self.assertEqual([given[2], given[4], given[6]], [[0, 2, 1, 16384, 0, 0, 16384], [0, 1, 1, 16383, 0, 0, 16384],
                                                          [0, 0, 2, 16382, 0, 0, 16384]])

    def test_ended_without_bytes(self):
        side = side_with(1)
        handling.put(side, 1, 1, [])
        self.assertEqual(handling.look(side, 1), [0, 0, 1, 16384, 0, 0, 16384])
        sending.out(side, 8)
        self.assertEqual(handling.look(side, 1), [0, 0, 2, 16384, 0, 0, 16384])

    def test_credit(self):
        given = said(ASK, came(credit(1, 100)), look(1), put(1, [1]), out(9), look(1))
        self.assertEqual([given[2], given[5]], [[0, 0, 0, 16484, 0, 0, 16384], [0, 0, 0, 16483, 0, 0, 16384]])

    def test_what_came_and_left(self):
        given = said(ASK, came(data(1, [1, 2, 3])), look(1), take(1, 2), look(1), came(data(1, [4])), look(1),
                     take(1, 9), look(1))
        self.assertEqual(given[2::2], [[0, 0, 0, 16384, 3, 0, 16381], [0, 0, 0, 16384, 1, 0, 16381],
                                       [0, 0, 0, 16384, 2, 0, 16380], [0, 0, 0, 16384, 0, 0, 16380]])

    def test_left_behind_8192_taken(self):
        given = said(came(data(2, some_bytes(4096)) * 2), take(2, 8191), look(2), take(2, 1), look(2))
        self.assertEqual(given[2::2], [[0, 0, 0, 16384, 1, 0, 8192], [0, 0, 0, 16384, 0, 0, 16384]])

    def test_the_last_came(self):
        given = said(ASK, came(data(1, [1], 1)), look(1), take(1, 1), look(1))
        self.assertEqual(given[2::2], [[0, 0, 0, 16384, 1, 1, 16383], [0, 0, 0, 16384, 0, 1, 16383]])
        self.assertEqual(said(ASK, came(data(1, [], 1)), look(1))[2], [0, 0, 0, 16384, 0, 1, 16384])

    def test_all_at_once(self):
        given = said(came(data(2, [1, 2], 1), credit(2, 5)), put(2, [7, 8, 9], 1), out(9), look(2), out(100), look(2))
        self.assertEqual([given[3], given[5]], [[0, 2, 1, 16388, 2, 1, 16382], [0, 0, 2, 16386, 2, 1, 16382]])

    def test_it_changes_nothing(self):
        calls = [ASK, put(1, [1], 1), came(data(1, [1, 2], 1)), out(100), take(1, 2), look(1)]
        looked = [call for one in calls for call in (one, look(1))]
        self.assertEqual(said(*looked)[::2], said(*calls))

    def test_none_there(self):
        for number in (0, 1, 2, 3, 4294967297, GREATEST):
            self.assertEqual(said(look(number)), [[-2]])
        self.assertEqual(said(ASK, came(data(2, [])), look(3), look(4), look(0))[2:], [[-2]] * 3)

    def test_gone(self):
        gone = ([ASK, stop(1, 0)], [ASK, came(stopped(1, 0))], [ASK, came(going(0))], [ASK, came(data(3, []))],
                [ASK, came(data(1, [], 1)), put(1, [1], 1), out(100), take(1, 1)],
                [ASK, came(data(1, [], 1)), put(1, [1], 1), take(1, 1), out(100)], [ASK, begin(1)])
        for calls in gone:
            self.assertEqual(said(*calls, look(1))[-1], [-2])


class Count(unittest.TestCase):
    def test_at_first(self):
        self.assertEqual(said(COUNT), [[0, 0, 0, 65536, 65536]])
        self.assertEqual(said(begin(2), COUNT)[1], [0, 0, 0, 65536, 65536])

    def test_ours_and_theirs(self):
        given = said(ASK, ASK, ASK, came(data(4, [])), COUNT, stop(3, 0), stop(2, 0), COUNT)
        self.assertEqual([given[4], given[7]], [[3, 2, 0, 65536, 65536], [2, 1, 2, 65536, 65536]])
        given = said(begin(2), ASK, came(data(5, [])), COUNT)
        self.assertEqual(given[3], [1, 3, 0, 65536, 65536])

    def test_ours_and_theirs_that_are_done_with(self):
        given = said(ASK, came(data(1, [], 1), data(2, [], 1)), put(1, [1], 1), put(2, [1], 1), take(1, 1), COUNT,
                     out(100), COUNT, take(2, 1), COUNT)
        self.assertEqual(given[5::2], [[1, 1, 0, 65536, 65536], [0, 1, 0, 65534, 65536], [0, 0, 0, 65534, 65536]])

    def test_frames_to_be_sent(self):
        given = said(ASK, still(1), COUNT, stop(1, 0), COUNT, OVER, COUNT, came(still_asked(2)), COUNT,
                     came(data(4, [])), COUNT, out(16), COUNT, out(12), COUNT, out(100), COUNT)
        self.assertEqual([row[2] for row in given[2::2]], [1, 2, 3, 4, 6, 5, 4, 0])

    def test_data_is_not_among_them(self):
        self.assertEqual(said(ASK, put(1, [1], 1), COUNT)[2], [1, 0, 0, 65536, 65536])

    def test_credit_frames_are_among_them(self):
        given = said(came(data(2, some_bytes(4096)) * 2), take(2, GREATEST), COUNT)
        self.assertEqual(given[2], [0, 1, 1, 65536, 57344])

    def test_credit_of_all(self):
        given = said(ASK, ASK, put(1, [1, 2]), put(3, [3]), out(100), COUNT, came(credit(0, 1000)), COUNT)
        self.assertEqual([given[5], given[7]], [[2, 0, 0, 65533, 65536], [2, 0, 0, 66533, 65536]])

    def test_left_of_all(self):
        given = said(ASK, came(data(1, [1, 2]), data(2, [3])), COUNT, take(1, 9), COUNT, stop(2, 0), came(data(2, [4])),
                     COUNT)
        self.assertEqual([given[2], given[4], given[7]], [[1, 1, 0, 65536, 65533], [1, 1, 0, 65536, 65533],
                                                          [1, 0, 1, 65536, 65532]])

    def test_left_of_all_behind_32768_given_back(self):
        line = side_with(1)
        line.owed = 32767
        receiving.came(line, data(1, [1]))
        self.assertEqual(line.left, 65535)
        handling.take(line, 1, 1)
        self.assertEqual((line.owed, line.left), (0, 65535 + 32768))

    def test_it_changes_nothing(self):
        calls = [ASK, put(1, [1], 1), came(data(2, [1, 2], 1)), out(100), take(2, 2), stop(2, 1), out(100)]
        counted = [call for one in calls for call in (one, COUNT)]
        self.assertEqual(said(*counted)[::2], said(*calls))


if __name__ == "__main__":
    unittest.main()
