"""Point 6: out."""

import unittest

from onestream import handling, sending
from onestream.frames import stopped_frame
from onestream.side import Side
from tests.lines import (ASK, GREATEST, begin, data, out, pieces, put, said, sent, side_with, some_bytes, stop,
                         stopped)


class Room(unittest.TestCase):
    def test_nothing_to_send(self):
        self.assertEqual(said(out(0), out(GREATEST), ASK, out(100)), [[0], [0], [1], [0]])

    def test_no_whole_frame_goes_in(self):
        for most in (0, 1, 7, 8):
            told = said(ASK, put(1, [1, 2]), out(most), out(100))
            self.assertEqual(told[2:], [[0], sent(data(1, [1, 2]))])

    def test_one_byte_of_data(self):
        told = said(ASK, put(1, [6, 7], 1), out(9), out(9), out(9))
        self.assertEqual(told[2], [9, 0, 1, 1, 0, 0, 0, 0, 1, 6])
        self.assertEqual(told[3], [9, 0, 1, 1, 1, 0, 0, 0, 1, 7])
        self.assertEqual(told[4], [0])

    def test_a_piece_cut_by_the_room(self):
        told = said(ASK, put(1, some_bytes(20), 1), out(20), out(16), out(100))
        self.assertEqual(told[2:], [sent(data(1, some_bytes(20)[:12])), sent(data(1, some_bytes(20)[12:], 1)), [0]])

    def test_pieces_of_1024_at_most(self):
        for size, bodies in ((1023, [1023]), (1024, [1024]), (1025, [1024, 1]), (2049, [1024, 1024, 1])):
            told = said(ASK, put(1, some_bytes(size)), out(GREATEST))
            self.assertEqual(pieces(told[2]), [(1, 0, 1, body) for body in bodies])

    def test_the_rest_of_the_room_goes_to_the_next(self):
        many = some_bytes(1100)
        told = said(ASK, ASK, put(1, many), put(3, many), out(1032 + 8), out(1032 + 9))
        self.assertEqual(pieces(told[4]), [(1, 0, 1, 1024)])
        self.assertEqual(pieces(told[5]), [(1, 0, 3, 1024), (1, 0, 1, 1)])

    def test_1048576_at_the_utmost_of_data(self):
        for most in (1048576, 1048577, GREATEST):
            side = side_with(20)
            side.credit = 2147483647
            for number in side.exchanges:
                side.exchanges[number].credit = 65536
                handling.put(side, number, 0, some_bytes(65536))
            self.assertEqual(sum(8 + row[3] for row in pieces(sending.out(side, most))), 1048576)
            self.assertGreater(len(sending.out(side, most)), 1)

    def test_1048576_at_the_utmost_of_first_frames(self):
        for most in (1048576, 1048577, GREATEST):
            side = side_with(1)
            handling.put(side, 1, 0, some_bytes(20))
            side.first = [stopped_frame(3, 0) for _ in range(87382)]
            self.assertEqual(sending.out(side, most)[0], 87381 * 12)
            self.assertEqual(sending.out(side, 100), sent(stopped(3, 0), data(1, some_bytes(20))))


class First(unittest.TestCase):
    def test_ahead_of_data_in_their_order(self):
        told = said(ASK, ASK, ASK, put(1, [1]), stop(5, 50), stop(3, 30), out(100))
        self.assertEqual(told[6], sent(stopped(5, 50), stopped(3, 30), data(1, [1])))

    def test_no_data_past_one_that_has_no_room(self):
        for most in (0, 8, 9, 11):
            told = said(ASK, ASK, put(1, [1]), stop(3, 3), out(most), out(100))
            self.assertEqual(told[4:], [[0], sent(stopped(3, 3), data(1, [1]))])

    def test_the_second_has_no_room(self):
        told = said(ASK, ASK, ASK, put(1, [1]), stop(3, 3), stop(5, 5), out(23), out(12), out(12))
        self.assertEqual(told[6:], [sent(stopped(3, 3)), sent(stopped(5, 5)), sent(data(1, [1]))])

    def test_no_smaller_one_past_a_greater_one(self):
        side = side_with(0)
        side.first = [[0, 8, 4, 0, 0, 0, 0, 0, 1, 2, 3, 4, 5, 6, 7, 8], stopped_frame(3, 0)]
        self.assertEqual(sending.out(side, 15), [0])
        self.assertEqual(sending.out(side, 16)[0], 16)
        self.assertEqual(sending.out(side, 15), sent(stopped(3, 0)))

    def test_the_room_behind_them_is_for_data(self):
        told = said(ASK, ASK, put(1, [1, 2, 3]), stop(3, 3), out(12 + 8), out(0), out(9))
        self.assertEqual(told[4:], [sent(stopped(3, 3)), [0], sent(data(1, [1]))])
        told = said(ASK, ASK, put(1, [1, 2, 3]), stop(3, 3), out(12 + 10))
        self.assertEqual(told[4], sent(stopped(3, 3), data(1, [1, 2])))


class Turns(unittest.TestCase):
    def test_in_order_of_the_numbers_not_of_the_puts(self):
        told = said(ASK, ASK, ASK, put(5, [5]), put(3, [3]), put(1, [1]), out(100))
        self.assertEqual(told[6], sent(data(1, [1]), data(3, [3]), data(5, [5])))

    def test_round_and_round(self):
        told = said(ASK, ASK, ASK, put(1, some_bytes(2500)), put(3, some_bytes(10)), put(5, some_bytes(2048), 1),
                    out(GREATEST))
        self.assertEqual(pieces(told[6]), [(1, 0, 1, 1024), (1, 0, 3, 10), (1, 0, 5, 1024), (1, 0, 1, 1024),
                                           (1, 1, 5, 1024), (1, 0, 1, 452)])

    def test_over_several_outs(self):
        told = said(ASK, ASK, ASK, put(1, [1, 1]), put(3, [3, 3]), put(5, [5, 5]), *[out(9)] * 7)
        order = [sent(data(number, [number])) for number in (1, 3, 5, 1, 3, 5)]
        self.assertEqual(told[6:], order + [[0]])

    def test_from_the_one_behind_the_last(self):
        told = said(ASK, ASK, ASK, put(3, [3]), out(100), put(1, [1]), put(3, [4]), put(5, [5]), out(100))
        self.assertEqual(told[8], sent(data(5, [5]), data(1, [1]), data(3, [4])))

    def test_an_out_that_sends_no_data_keeps_the_turn(self):
        told = said(ASK, ASK, ASK, put(1, [1, 1]), put(3, [3, 3]), out(9), out(8), stop(5, 5), out(12), out(9))
        self.assertEqual(told[9], sent(data(3, [3])))

    def test_behind_one_that_is_gone(self):
        told = said(ASK, ASK, ASK, put(1, [1]), put(3, [3, 3]), put(5, [5]), out(9), out(9), stop(3, 0), out(100))
        self.assertEqual(told[9], sent(stopped(3, 0), data(5, [5])))
        told = said(ASK, ASK, ASK, put(1, [1, 1]), put(3, [3, 3]), put(5, [5]), out(9), out(9), stop(3, 0), out(100))
        self.assertEqual(told[9], sent(stopped(3, 0), data(5, [5]), data(1, [1])))

    def test_one_asked_later_is_behind(self):
        told = said(ASK, ASK, put(1, [1, 1]), put(3, [3, 3]), out(9), out(9), ASK, put(5, [5]), out(100))
        self.assertEqual(told[8], sent(data(5, [5]), data(1, [1]), data(3, [3])))

    def test_side_2(self):
        told = said(begin(2), ASK, ASK, put(4, [4]), put(2, [2]), out(100))
        self.assertEqual(told[5], sent(data(2, [2]), data(4, [4])))

    def test_the_others_exchanges_have_turns_between_ours(self):
        side = Side(1)
        for number in (1, 5, 2, 4):
            side.add_exchange(number)
            handling.put(side, number, 0, [number])
        self.assertEqual(sending.out(side, 100), sent(data(1, [1]), data(2, [2]), data(4, [4]), data(5, [5])))

    def test_64_exchanges(self):
        numbers = list(range(1, 129, 2))
        told = said(*[ASK] * 64, *[put(number, [number] * 2) for number in numbers], *[out(9)] * 128)
        self.assertEqual(told[128:], [sent(data(number, [number])) for number in numbers * 2])


class Credit(unittest.TestCase):
    def test_a_piece_cut_by_the_exchanges_credit(self):
        side = side_with(2)
        handling.put(side, 1, 1, some_bytes(16390))
        self.assertEqual(sending.out(side, 15 * 1032)[0], 15 * 1032)
        self.assertEqual(sending.out(side, 1032 - 6), sent(data(1, some_bytes(16390)[15360:16378])))
        self.assertEqual(sending.out(side, GREATEST), sent(data(1, some_bytes(16390)[16378:16384])))
        self.assertEqual(sending.out(side, GREATEST), [0])
        self.assertEqual((side.exchanges[1].credit, side.credit), (0, 65536 - 16384))
        # One without credit holds up no other.
        handling.put(side, 3, 0, [3])
        self.assertEqual(sending.out(side, GREATEST), sent(data(3, [3])))
        side.exchanges[1].credit = 5
        self.assertEqual(pieces(sending.out(side, GREATEST)), [(1, 0, 1, 5)])
        side.exchanges[1].credit = 5
        self.assertEqual(pieces(sending.out(side, GREATEST)), [(1, 1, 1, 1)])
        self.assertEqual(side.exchanges[1].credit, 4)

    def test_a_piece_cut_by_the_credit_of_all(self):
        side = side_with(5)
        for number in (1, 3, 5):
            handling.put(side, number, 0, some_bytes(16384))
        handling.put(side, 7, 0, some_bytes(16000))
        self.assertEqual(sum(row[3] for row in pieces(sending.out(side, GREATEST))), 65152)
        self.assertEqual(side.credit, 384)
        handling.put(side, 9, 1, some_bytes(385))
        self.assertEqual(sending.out(side, GREATEST), sent(data(9, some_bytes(384))))
        self.assertEqual(sending.out(side, GREATEST), [0])
        self.assertEqual((side.credit, side.exchanges[9].credit), (0, 16000))
        side.credit = 10
        self.assertEqual(sending.out(side, GREATEST), sent(data(9, some_bytes(385)[384:], 1)))
        self.assertEqual(side.credit, 9)

    def test_first_frames_need_no_credit(self):
        side = side_with(2)
        side.credit = 0
        handling.put(side, 3, 0, [3])
        handling.stop(side, 1, 1)
        self.assertEqual(sending.out(side, 100), sent(stopped(1, 1)))
        self.assertEqual(side.credit, 0)


class Last(unittest.TestCase):
    def test_on_the_last_piece_alone(self):
        told = said(ASK, put(1, some_bytes(1025), 1), out(GREATEST))
        self.assertEqual(pieces(told[2]), [(1, 0, 1, 1024), (1, 1, 1, 1)])
        told = said(ASK, put(1, some_bytes(1024), 1), out(GREATEST))
        self.assertEqual(pieces(told[2]), [(1, 1, 1, 1024)])

    def test_not_before_it_is_ended(self):
        told = said(ASK, put(1, [1]), out(100), put(1, [2], 1), out(100), out(100))
        self.assertEqual(told[2:], [sent(data(1, [1])), [1], sent(data(1, [2], 1)), [0]])

    def test_nothing_behind_it(self):
        told = said(ASK, put(1, [1], 1), out(100), put(1, [2]), out(100), put(1, [2], 1), out(100))
        self.assertEqual(told[2:], [sent(data(1, [1], 1)), [-6], [0], [-6], [0]])

    def test_an_empty_one_where_an_end_came_without_bytes(self):
        side = side_with(1)
        handling.put(side, 1, 0, [1])
        sending.out(side, 100)
        self.assertEqual(handling.put(side, 1, 1, []), [0])
        self.assertEqual(sending.out(side, 7), [0])
        self.assertEqual(sending.out(side, 8), [8, 0, 0, 1, 1, 0, 0, 0, 1])
        self.assertEqual(sending.out(side, 8), [0])

    def test_an_empty_one_needs_no_credit(self):
        side = side_with(1)
        side.credit = 0
        side.exchanges[1].credit = 0
        handling.put(side, 1, 1, [])
        self.assertEqual(sending.out(side, 100), sent(data(1, [], 1)))
        self.assertEqual((side.credit, side.exchanges[1].credit), (0, 0))

    def test_an_empty_one_has_its_turn(self):
        side = side_with(3)
        handling.put(side, 1, 0, [1, 1])
        handling.put(side, 3, 1, [])
        handling.put(side, 5, 0, [5])
        self.assertEqual(sending.out(side, 9), sent(data(1, [1])))
        # In a room of 8 bytes the empty one alone can send.
        self.assertEqual(sending.out(side, 8), sent(data(3, [], 1)))
        self.assertEqual(sending.out(side, 100), sent(data(5, [5]), data(1, [1])))

    def test_bytes_without_credit_are_not_sent_as_an_empty_frame(self):
        side = side_with(1)
        side.exchanges[1].credit = 0
        handling.put(side, 1, 1, [1])
        self.assertEqual(sending.out(side, 100), [0])
        self.assertFalse(side.exchanges[1].last_sent)


class Dead(unittest.TestCase):
    def test_nothing_is_sent(self):
        side = side_with(2)
        handling.put(side, 1, 0, [1])
        handling.stop(side, 3, 0)
        side.dead = True
        self.assertEqual(sending.out(side, 100), [0])


if __name__ == "__main__":
    unittest.main()
