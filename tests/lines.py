"""How the tests write calls and the answers that they await."""

import unittest

from sumworkers.job import answers

LARGEST = 4294967295

SERVED, UNHEARD, LOST, SENT = 0, 1, 2, 3

GRANTED, WAIT, SHUT_OUT = 1, 2, 3

AIR = [4]


def begin(batch):
    return [0, batch]


def put(v):
    return [1, v]


def work(i, how=SERVED):
    return [2, i, how]


def arrive(k):
    return [3, k]


def crash(i):
    return [5, i]


def start(i):
    return [6, i]


BEGIN = [1]


def log(epoch, n, j):
    return [2, epoch, n, j]


def data(epoch, n, j, number, w):
    return [3, epoch, n, j, number, w]


def end(epoch, n, place, total):
    return [4, epoch, n, place, total]


class LineCase(unittest.TestCase):
    def check(self, *steps):
        """Each step is a call and its whole answer; all of them are one line."""
        calls = [number for call, _ in steps for number in call]
        handed_in = list(calls)
        told = answers(handed_in)
        self.assertEqual(self.split(told), [answer for _, answer in steps])
        self.assertEqual(handed_in, calls)
        for number in told:
            self.assertIs(type(number), int)

    def split(self, told):
        """The answers one by one; the counts must lead just to the end."""
        parts = []
        at = 0
        while at < len(told):
            self.assertGreaterEqual(told[at], 1)
            behind = at + 1 + told[at]
            self.assertLessEqual(behind, len(told))
            parts.append(told[at + 1:behind])
            at = behind
        return parts
