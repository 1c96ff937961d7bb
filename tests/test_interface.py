"""The interface: how a list of calls is read and how the list of answers is written."""

import contextlib
import io
import random
import unittest

from onestream.desk import answers
from tests.lines import (ASK, COUNT, GREATEST, OVER, begin, came, credit, data, going, look, out, pieces, put, said,
                         some_bytes, still, still_answered, still_asked, stop, stopped, take)

SENDING = (begin(2) + ASK + ASK + put(2, [1, 2, 3], 1) + put(4, [4]) + take(2, 5) + stop(4, 6) + begin(7)
           + put(9, [1]) + out(GREATEST))

# What each of the eleven calls answers, and each thing that can be told, is in it.
MIXED = (SENDING + came(data(3, [5, 6], 1), still_asked(7), still_answered(8), stopped(1, 9), credit(0, 4)) + still(10)
         + look(3) + take(3, 9) + look(2) + COUNT + OVER + OVER + out(100) + came(data(5, [1]), going(0), data(9, []))
         + COUNT + came([0, 0, 7, 0, 0, 0, 0, 0]) + came([0]) + look(3) + COUNT)


def changed(*what):
    raise AssertionError("what was handed in is changed")


class Unchanging(list):
    append = extend = insert = pop = remove = clear = sort = reverse = changed
    __setitem__ = __delitem__ = __iadd__ = __imul__ = changed


class Interface(unittest.TestCase):
    def test_many_calls_in_one_list(self):
        self.assertEqual(answers(SENDING), [1, 0, 1, 2, 1, 4, 1, 3, 1, 1, 2, 0, 0, 1, 0, 1, -1, 1, -2,
                                            24, 23, 0, 4, 3, 0, 0, 0, 0, 4, 0, 0, 0, 6,
                                            0, 3, 1, 1, 0, 0, 0, 2, 1, 2, 3])

    def test_all_eleven_calls_in_one_list(self):
        self.assertEqual(answers(MIXED)[len(answers(SENDING)):], [
            15, 6, 1, 1, 1, 3, 2, 3, 2, 3, 3, 6, 8, 4, 1, 9,
            1, 0,
            7, 0, 0, 0, 16384, 2, 1, 16382,
            4, 2, 1, 5, 6,
            7, 0, 0, 2, 16381, 0, 0, 16384,
            5, 1, 1, 2, 65537, 65534,
            1, 0,
            1, -4,
            45, 44, 0, 8, 5, 0, 0, 0, 0, 0, 0, 0, 0, 0, 0, 0, 0, 7,
            0, 8, 4, 0, 0, 0, 0, 0, 0, 0, 0, 0, 0, 0, 0, 10, 0, 4, 6, 0, 0, 0, 0, 0, 0, 0, 0, 3,
            6, 2, 5, 0, 4, 2, 4294967295,
            5, 0, 1, 3, 65537, 65533,
            3, 1, 7, 2,
            1, -6,
            1, -2,
            5, 0, 0, 0, 65537, 65533])

    def test_bytes_that_look_like_calls(self):
        self.assertEqual(answers(ASK + put(1, [2, 2, 6, 9]) + ASK), [1, 1, 1, 4, 1, 3])
        self.assertEqual(answers(came([0, 3, 1, 0]) + came([0, 0, 0, 2, 11, 2, 9]) + ASK),
                         [1, 0, 6, 2, 1, 2, 2, 2, 3, 1, 1])

    def test_each_call_alone(self):
        self.assertEqual(answers([1, 1]), [1, 0])
        self.assertEqual(answers([2]), [1, 1])
        self.assertEqual(answers([3, 1, 0, 1, 5]), [1, -2])
        self.assertEqual(answers([4, 1, 1]), [1, -2])
        self.assertEqual(answers([5, 1, 1]), [1, -2])
        self.assertEqual(answers([6, 100]), [1, 0])
        self.assertEqual(answers([7, 1, 0]), [1, 0])
        self.assertEqual(answers([8, 5]), [1, 0])
        self.assertEqual(answers([9]), [1, 0])
        self.assertEqual(answers([10, 1]), [1, -2])
        self.assertEqual(answers([11]), [5, 0, 0, 0, 65536, 65536])

    def test_the_greatest_arguments(self):
        calls = [begin(GREATEST), put(GREATEST, [255], GREATEST), take(GREATEST, GREATEST), stop(GREATEST, GREATEST),
                 out(GREATEST), still(GREATEST), look(GREATEST), out(GREATEST)]
        self.assertEqual(said(*calls), [[-1], [-1], [-2], [-1], [0], [0], [-2], [16] + still_asked(GREATEST)])

    def test_a_thousand_calls(self):
        calls = [ASK] + [put(1, [k % 256]) for k in range(998)] + [out(GREATEST)]
        told = said(*calls)
        self.assertEqual(told[1:999], [[k + 1] for k in range(998)])
        self.assertEqual(told[999][9:], [k % 256 for k in range(998)])

    def test_what_is_handed_in_is_the_same_afterwards(self):
        calls = list(MIXED)
        answers(calls)
        self.assertEqual(calls, MIXED)

    def test_what_is_handed_in_is_not_changed_for_a_while_either(self):
        self.assertEqual(answers(Unchanging(MIXED)), answers(MIXED))

    def test_what_is_given_back_is_not_what_was_handed_in(self):
        calls = list(MIXED)
        told = answers(calls)
        told.clear()
        self.assertEqual(calls, MIXED)
        self.assertNotEqual(answers(calls), [])

    def test_nothing_is_kept(self):
        first = answers(MIXED)
        self.assertEqual(answers(MIXED), first)
        self.assertEqual(answers(ASK), [1, 1])
        self.assertEqual(answers(ASK + put(1, [1], 1)), [1, 1, 1, 1])
        self.assertEqual(answers(put(1, [1]) + out(100)), [1, -2, 1, 0])

    def test_nothing_is_kept_of_what_came(self):
        for ahead in (came(data(2, [1])[:5]), OVER, came(going(0)), came(data(2, [1])), came(data(1, []))):
            answers(ahead)
            self.assertEqual(answers(came(data(2, [1])) + ASK + COUNT), [6, 2, 1, 2, 2, 2, 1, 1, 1,
                                                                        5, 1, 1, 0, 65536, 65535])

    def test_whole_numbers_alone(self):
        told = answers(MIXED)
        self.assertIs(type(told), list)
        self.assertEqual({type(number) for number in told}, {int})

    def test_nothing_is_printed(self):
        shown = io.StringIO()
        with contextlib.redirect_stdout(shown), contextlib.redirect_stderr(shown):
            answers(MIXED)
        self.assertEqual(shown.getvalue(), "")


class Refusals(unittest.TestCase):
    def test_a_refusal_leaves_all_as_it_was(self):
        before = [ASK, ASK, ASK, put(1, [1, 2], 1), put(3, [3, 4]), stop(5, 5), out(0)]
        after = [COUNT, look(1), out(12), out(9), put(3, [5]), take(1, 4), out(10), ASK, out(GREATEST)]
        refused = [begin(0), begin(3), put(3, [9], 2), put(5, [9]), put(1, [9]), put(2, [9], 1), take(5, 1),
                   stop(1, 4294967296), stop(5, 1), stop(2, 0), look(5), look(2)]
        self.check(before, refused, after)

    def test_a_refusal_leaves_what_came_as_it_was(self):
        before = [ASK, came(data(2, [1, 2], 1), going(1), data(4, [3])[:8]), OVER, stop(1, 1)]
        after = [COUNT, look(2), look(4), came([3], data(6, [1])), out(12), take(2, 1), take(2, 1), put(2, [1], 1),
                 out(100), look(2), COUNT]
        refused = [ASK, OVER, put(1, [1]), put(4, [1], 2), take(4, 1), stop(2, 4294967296), stop(4, 0), look(4),
                   begin(4)]
        self.check(before, refused, after)

    def test_a_refusal_leaves_it_dead(self):
        before = [ASK, came(data(2, [1, 2], 1), credit(0, 3), data(2, []))]
        after = [COUNT, out(100), came(data(4, [1])), ASK, begin(2), came(data(1, [1])), COUNT]
        refused = [ASK, OVER, still(1), came(data(4, [1])), put(1, [1]), take(2, 1), stop(2, 0), look(1), begin(0)]
        self.check(before, refused, after)

    def check(self, before, refused, after):
        plain = said(*before, *after)
        for call in refused:
            told = said(*before, call, *after)
            self.assertEqual(len(told[len(before)]), 1)
            self.assertLess(told[len(before)][0], 0)
            self.assertEqual(told[:len(before)] + told[len(before) + 1:], plain)


def mixed_calls(rand):
    calls = []
    for _ in range(200):
        number = rand.choice([1, 3, 5, 7, 9, 2])
        calls.append(rand.choice([
            ASK, ASK, put(number, some_bytes(rand.choice([1, 5, 30]), rand.randrange(256)), rand.choice([0, 0, 0, 1])),
            put(number, some_bytes(50)), out(rand.choice([0, 8, 9, 30, 60])), out(rand.randrange(100)),
            take(number, 3), stop(rand.choice([1, 3, 5, 7, 9]) + 2 * rand.randrange(50), 1)]))
    return calls + [out(GREATEST)]


class ManyMixtures(unittest.TestCase):
    def check_data(self, told, was_put, was_sent, ended, stopped_ones):
        at = 1
        for kind, flags, number, size in pieces(told):
            body = told[at + 8:at + 8 + size]
            at += 8 + size
            if kind == 1:
                self.assertNotIn(number, stopped_ones)
                was_sent[number] = was_sent.get(number, []) + body
                whole = was_sent[number] == was_put[number]
                self.assertEqual(was_sent[number], was_put[number][:len(was_sent[number])])
                self.assertEqual(flags, 1 if whole and number in ended else 0)

    def test_what_is_sent_is_what_was_put(self):
        for seed in range(60):
            calls = mixed_calls(random.Random(seed))
            was_put, was_sent, ended, stopped_ones = {}, {}, {}, {}
            for call, told in zip(calls, said(*calls)):
                if call[0] == 3 and told[0] > 0:
                    was_put[call[1]] = was_put.get(call[1], []) + call[4:]
                    self.assertEqual(told[0], len(was_put[call[1]]) - len(was_sent.get(call[1], [])))
                    if call[2] == 1:
                        ended[call[1]] = True
                if call[0] == 5 and told[0] == 0:
                    stopped_ones[call[1]] = True
                if call[0] == 6:
                    self.assertLessEqual(told[0], call[1])
                    self.check_data(told, was_put, was_sent, ended, stopped_ones)
            for number in was_put:
                if number not in stopped_ones:
                    self.assertEqual(was_sent[number], was_put[number])


if __name__ == "__main__":
    unittest.main()
