"""Point 7: came, in which pieces bytes come, and when a frame is wrong."""

import unittest

from tests.lines import (ASK, COUNT, GREATEST, asked_anew, begin, came, credit, data, frame, going, look, out, put,
                         said, sent, some_bytes, still_answered, still_asked, stop, stopped, take, told)


def wrong(k):
    return told([7, k])


class Pieces(unittest.TestCase):
    def test_one_frame_byte_by_byte(self):
        whole = data(2, [7, 8, 9], 1)
        given = said(*[came([byte]) for byte in whole], take(2, 9))
        self.assertEqual(given[:10], [[0]] * 10)
        self.assertEqual(given[10:], [told([1, 2], [2, 2, 3], [3, 2]), [3, 1, 7, 8, 9]])

    def test_a_frame_without_a_body_is_whole_with_its_head(self):
        self.assertEqual(said(came(data(2, [])[:7]), came(data(2, [])[7:])), [[0], told([1, 2])])

    def test_several_frames_in_one_piece(self):
        given = said(came(data(2, [1]), data(4, [2, 3], 1), data(2, [], 1), still_answered(5)))
        self.assertEqual(given, [told([1, 2], [2, 2, 1], [1, 4], [2, 4, 2], [3, 4], [3, 2], [6, 5])])

    def test_a_frame_and_a_half(self):
        half = data(2, [4, 5, 6])
        given = said(came(data(2, [1, 2, 3]), half[:9]), take(2, 9), came(half[9:]), take(2, 9))
        self.assertEqual(given, [told([1, 2], [2, 2, 3]), [3, 0, 1, 2, 3], told([2, 2, 3]), [3, 0, 4, 5, 6]])

    def test_half_a_head_behind_a_frame(self):
        given = said(came(data(2, []), credit(2, 6)[:3]), came(credit(2, 6)[3:], data(2, [9])[:4]), look(2),
                     came(data(2, [9])[4:]))
        self.assertEqual(given, [told([1, 2]), [0], [0, 0, 0, 16390, 0, 0, 16384], told([2, 2, 1])])

    def test_every_cut_of_a_row_of_frames(self):
        row = (data(2, [1, 2]) + still_asked(3) + credit(0, 9) + stopped(4, 5) + data(2, [], 1) + still_answered(6)
               + going(0))
        things = [[1, 2], [2, 2, 2], [1, 4], [4, 4, 5], [3, 2], [6, 6], [5, 0], [4, 1, 4294967295]]
        for cut in range(1, len(row)):
            given = said(ASK, came(row[:cut]), came(row[cut:]), COUNT, out(100), take(2, 9))
            self.assertEqual(given[1][0] + given[2][0], len(things))
            self.assertEqual(given[1][1:] + given[2][1:], told(*things)[1:])
            self.assertEqual(given[3:], [[0, 1, 1, 65545, 65534], sent(still_answered(3)), [2, 1, 1, 2]])

    def test_the_greatest_body(self):
        what = some_bytes(4096, 5)
        self.assertEqual(said(came(data(2, what)), take(2, GREATEST)), [told([1, 2], [2, 2, 4096]), [4096, 0] + what])

    def test_the_most_that_one_came_has(self):
        row = data(2, some_bytes(4096)) * 3 + data(2, some_bytes(3580), 1)
        self.assertEqual(len(row), 15900)
        given = said(came(row), take(2, GREATEST), out(100))
        self.assertEqual(given[0], told([1, 2], [2, 2, 4096], [2, 2, 4096], [2, 2, 4096], [2, 2, 3580], [3, 2]))
        self.assertEqual(given[1], [15868, 1] + some_bytes(4096) * 3 + some_bytes(3580))

    def test_nothing_told(self):
        self.assertEqual(said(came([0]), came([0]), ASK, out(9), COUNT), [[0], [0], [1], [0], [1, 0, 0, 65536, 65536]])

    def test_a_begin_forgets_half_a_frame(self):
        given = said(came(data(2, [1])[:5]), begin(1), came(data(2, [1])))
        self.assertEqual(given, [[0], [0], told([1, 2], [2, 2, 1])])


class WrongHeads(unittest.TestCase):
    def test_a_length_above_4096(self):
        for high, low in ((16, 1), (16, 255), (17, 0), (255, 255)):
            for kind, number in ((1, 2), (2, 0), (3, 2), (4, 0), (5, 0), (6, 0), (0, 0), (7, 9), (255, 0)):
                head = [high, low, kind, 0, 0, 0, 0, number]
                self.assertEqual(said(came(head[:7]), came(head[7:])), [[0], wrong(1)])
                self.assertEqual(said(came(head)), [wrong(1)])

    def test_a_length_of_4096_is_waited_for(self):
        self.assertEqual(said(came([16, 0, 1, 1, 0, 0, 0, 2]), came([1] * 4095), came([1])),
                         [[0], [0], told([1, 2], [2, 2, 4096], [3, 2])])

    def test_flags_above_1(self):
        for flags in (2, 3, 128, 255):
            for kind, number in ((1, 2), (2, 0), (3, 2), (4, 0), (5, 0), (6, 0), (0, 0), (7, 9), (255, 0)):
                head = [0, 4, kind, flags, 0, 0, 0, number]
                self.assertEqual(said(came(head[:7]), came(head[7:])), [[0], wrong(2)])

    def test_the_length_is_wrong_ahead_of_the_flags(self):
        self.assertEqual(said(came([16, 1, 1, 2, 0, 0, 0, 2])), [wrong(1)])
        self.assertEqual(said(came([16, 0, 1, 2, 0, 0, 0, 2])), [wrong(2)])


class NoFrames(unittest.TestCase):
    def check(self, whole):
        """Wrong 2, but only behind its last byte."""
        self.assertEqual(said(came(whole)), [wrong(2)])
        if len(whole) > 8:
            self.assertEqual(said(came(whole[:-1]), came(whole[-1:])), [[0], wrong(2)])

    def test_kinds_that_are_none(self):
        for kind in (0, 7, 8, 129, 255):
            for flags in (0, 1):
                for number in (0, 1, 2):
                    for size in (0, 4, 8, 4096):
                        self.check(frame(kind, flags, number, [0] * size))

    def test_data_of_0(self):
        for flags in (0, 1):
            self.check(frame(1, flags, 0, []))
            self.check(frame(1, flags, 0, [1, 2, 3, 4]))

    def test_lengths_of_bodies(self):
        for kind, number, right in ((2, 0, 4), (2, 2, 4), (3, 2, 4), (4, 0, 8), (5, 0, 8), (6, 0, 4)):
            for size in (0, 1, 3, 4, 5, 7, 8, 9, 12, 4096):
                if size != right:
                    self.check(frame(kind, 0, number, [0] * size))

    def test_numbers(self):
        self.check(frame(3, 0, 0, [0] * 4))
        for number in (1, 2, 256, 16777216, 4294967295):
            self.check(frame(4, 0, number, [0] * 8))
            self.check(frame(5, 0, number, [0] * 8))
            self.check(frame(6, 0, number, [0] * 4))

    def test_the_last_where_it_may_not_be(self):
        for kind, number, size in ((2, 0, 4), (2, 2, 4), (3, 2, 4), (4, 0, 8), (5, 0, 8), (6, 0, 4)):
            self.check(frame(kind, 1, number, [0] * size))

    def test_no_frame_is_wrong_ahead_of_what_it_would_do(self):
        # Each would be wrong 3, were it a frame.
        self.check(frame(2, 1, 2, [0] * 4))
        self.check(frame(3, 0, 1, [0] * 5))
        self.check(frame(3, 1, 200, [0] * 4))

    def test_an_empty_body_of_data_is_a_frame(self):
        self.assertEqual(said(came(data(2, []))), [told([1, 2])])
        self.assertEqual(said(came(data(2, [], 1))), [told([1, 2], [3, 2])])


class AheadAndBehind(unittest.TestCase):
    def test_what_stands_ahead_is_told_and_what_stands_behind_is_not_read(self):
        for bad, k in (([16, 1, 1, 0, 0, 0, 0, 2], 1), ([0, 0, 1, 2, 0, 0, 0, 2], 2), (frame(7, 0, 0, []), 2),
                       (data(1, [1]), 3), (credit(0, 2147483647), 5), (data(4, [1]), 6)):
            given = said(came(data(2, [5, 6]), data(4, [], 1), bad, data(2, [7]), stopped(2, 1), still_answered(1)))
            self.assertEqual(given, [told([1, 2], [2, 2, 2], [1, 4], [3, 4], [7, k])])

    def test_what_was_asked_anew_ahead_is_told(self):
        given = said(came(data(6, [1], 1), data(6, [])))
        self.assertEqual(given, [told(*asked_anew([2, 4, 6]), [2, 6, 1], [3, 6], [7, 6])])

    def test_what_was_done_ahead_counts(self):
        given = said(came(credit(0, 10), data(2, [1, 2, 3]), frame(0, 0, 0, [])), COUNT)
        self.assertEqual(given, [told([1, 2], [2, 2, 3], [7, 2]), [0, 0, 0, 65546, 65533]])

    def test_the_second_of_two_wrongs_is_not_told(self):
        self.assertEqual(said(came(data(1, []), [16, 1, 1, 0, 0, 0, 0, 2])), [wrong(3)])

    def test_calls_between(self):
        given = said(ASK, put(1, [1]), came(data(1, [4, 4])), stop(1, 3), came(data(1, [5], 1)), out(100))
        self.assertEqual(given[2:], [told([2, 1, 2]), [0], [0], sent(stopped(1, 3))])


if __name__ == "__main__":
    unittest.main()
