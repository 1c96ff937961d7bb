"""Two sides that talk with one another: what holds whatever they do."""

import random
import unittest

from tests.lines import (ASK, COUNT, GREATEST, OVER, begin, came, look, out, put, said, some_bytes, still, stop, take)

SIZES = {1: 1, 2: 2, 3: 1, 4: 2, 5: 1, 6: 1, 7: 1}


def things(given):
    """What an answer of came tells, a list for each."""
    rows = []
    at = 1
    while at < len(given):
        rows.append(given[at:at + 1 + SIZES[given[at]]])
        at += len(rows[-1])
    if at != len(given) or len(rows) != given[0]:
        raise AssertionError("came's count is wrong")
    return rows


class Talker:
    """One side: all calls on it are kept, so that each is answered behind all before it."""

    def __init__(self, which):
        self.calls = [begin(which)]
        self.on_the_way = []
        self.known = []
        self.was_put = {}
        self.was_taken = {}
        self.ended = {}
        self.end_told = {}
        self.stopped = {}

    def call(self, one):
        self.calls.append(one)
        return said(*self.calls)[-1]

    def ask(self):
        given = self.call(ASK)
        if given[0] > 0:
            self.known.append(given[0])

    def put(self, number, what, last):
        if self.call(put(number, what, last))[0] > 0:
            self.was_put[number] = self.was_put.get(number, []) + what
            self.ended[number] = last == 1

    def take(self, number, most):
        given = self.call(take(number, most))
        if len(given) > 1:
            if given[0] != len(given) - 2 or given[0] > most:
                raise AssertionError("take's count is wrong")
            self.was_taken[number] = self.was_taken.get(number, []) + given[2:]
            self.end_told[number] = given[1] == 1

    def stop(self, number):
        if self.call(stop(number, 5)) == [0]:
            self.stopped[number] = True

    def send(self, most):
        given = self.call(out(most))
        if given[0] != len(given) - 1 or given[0] > most:
            raise AssertionError("out's count is wrong")
        self.on_the_way.extend(given[1:])
        return given[0]

    def hear(self, other, size):
        what = other.on_the_way[:size]
        other.on_the_way = other.on_the_way[size:]
        if not what:
            return
        for thing in things(self.call(came(what))):
            if thing[0] == 7:
                raise AssertionError("nothing wrong was sent")
            if thing[0] == 1:
                self.known.append(thing[1])
            if thing[0] == 4:
                self.stopped[thing[1]] = True


def step(rand, one, other):
    number = rand.choice(one.known + [1, 2])
    what = rand.choice(["ask", "put", "put", "take", "take", "send", "send", "hear", "hear", "still", "stop", "over"])
    if what == "ask":
        one.ask()
    elif what == "put":
        one.put(number, some_bytes(rand.choice([1, 20, 90]), rand.randrange(256)), rand.choice([0, 0, 1]))
    elif what == "take":
        one.take(number, rand.choice([0, 1, 30, GREATEST]))
    elif what == "send":
        one.send(rand.choice([0, 8, 9, 20, 40, 100, 500]))
    elif what == "hear":
        one.hear(other, rand.choice([1, 3, 8, 50, 400]))
    elif what == "still":
        one.call(still(rand.randrange(GREATEST)))
    elif what == "stop" and rand.randrange(4) == 0:
        one.stop(number)
    elif what == "over" and rand.randrange(12) == 0:
        one.call(OVER)


def settle(one, other):
    """Lets everything that is to be sent come."""
    moved = True
    while moved:
        moved = one.send(GREATEST) + other.send(GREATEST) > 0
        one.hear(other, GREATEST)
        other.hear(one, GREATEST)


def talk(seed, steps):
    rand = random.Random(seed)
    one, other = Talker(1), Talker(2)
    for _ in range(steps):
        if rand.randrange(2) == 0:
            step(rand, one, other)
        else:
            step(rand, other, one)
    settle(one, other)
    return one, other


class TwoSides(unittest.TestCase):
    def check_bytes(self, giver, taker):
        for number, taken in taker.was_taken.items():
            self.assertEqual(taken, giver.was_put.get(number, [])[:len(taken)])
            if taker.end_told[number]:
                self.assertTrue(giver.ended[number])
                self.assertEqual(taken, giver.was_put[number])

    def check_credit(self, giver, taker):
        mine, its = giver.call(COUNT), taker.call(COUNT)
        self.assertEqual(mine[3], its[4])
        self.assertEqual(mine[2], 0)
        for number in set(giver.known) & set(taker.known):
            here, there = giver.call(look(number)), taker.call(look(number))
            if here != [-2] and there != [-2]:
                self.assertEqual(here[3], there[6])
                self.assertEqual(here[1], 0)
                self.assertEqual(here[2] == 2, there[5] == 1)

    def check_rest(self, giver, taker):
        for number in list(taker.known):
            taker.take(number, GREATEST)
        for number in giver.was_put:
            if number not in giver.stopped and number not in taker.stopped:
                self.assertEqual(taker.was_taken[number], giver.was_put[number])

    def test_what_was_put_is_taken_and_the_credits_fit(self):
        for seed in range(40):
            one, other = talk(seed, 160)
            for giver, taker in ((one, other), (other, one)):
                self.check_bytes(giver, taker)
                self.check_credit(giver, taker)
            for giver, taker in ((one, other), (other, one)):
                self.check_rest(giver, taker)
                self.check_bytes(giver, taker)


if __name__ == "__main__":
    unittest.main()
