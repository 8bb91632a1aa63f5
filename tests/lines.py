"""How the tests write calls and the answers that they await."""

import unittest

from sumworkers.job import answers

LARGEST = 4294967295

SERVED, UNHEARD, LOST, SENT = 0, 1, 2, 3

GRANTED, WAIT, SHUT_OUT = 1, 2, 3

AIR = [4]
EXPIRE = [8]
KEEPER = [12]


def begin(batch):
    return [0, batch]


def put(v):
    return [1, v]


def work(i, how=SERVED):
    return [2, i, how]


def arrive(k):
    return [3, k]


def crash(i):
    return [5, i]


def start(i):
    return [6, i]


def push(j):
    return [7, j]


def read(j, n=0):
    return [9, j, n]


def raw(j):
    return [10, j]


def worker(i):
    return [11, i]


BEGIN = [1]


def log(epoch, n, j):
    return [2, epoch, n, j]


def data(epoch, n, j, number, w):
    return [3, epoch, n, j, number, w]


def end(epoch, n, place, total):
    return [4, epoch, n, place, total]


STANDS, GOES = [2], [3]


def wrote(epoch, w):
    return [1, epoch, w]


def records(*each):
    """What raw answers of a log with these records."""
    return [len(each)] + [number for record in each for number in record]


def seen(*sums):
    """What read answers of a log of which a reader sees these."""
    return [len(sums)] + list(sums)


DOWN = [0, 0, 0, 0, 0, 0, 0]
WITHOUT_EPOCH = [1, 0, 0, 0, 0, 0, 0]

IS_OPEN, TO_STAND, TO_GO = 0, 1, 2


def under_way(number, state, has, lacks):
    """What keeper tells of a transaction, behind the place and the sum."""
    return [1, number, state] + list(has) + list(lacks)


NONE_UNDER_WAY = [0]

AT_FIRST = [
    (AIR, [0]),
    (worker(1), WITHOUT_EPOCH),
    (worker(2), DOWN),
    (worker(3), DOWN),
    (KEEPER, [0, 0, 0, 0] + NONE_UNDER_WAY),
    (raw(0), [0]),
    (raw(1), [0]),
    (read(0), [0]),
    (read(1), [0]),
]


class LineCase(unittest.TestCase):
    def check(self, *steps):
        """Each step is a call and its whole answer; all of them are one line."""
        self.assertEqual(self.told([call for call, _ in steps]), [answer for _, answer in steps])

    def told(self, each):
        """The answers to these calls, one by one; all of them are one line."""
        calls = [number for call in each for number in call]
        self.assertLessEqual(len(each), 200)
        self.assertLessEqual(len(calls), 600)
        handed_in = list(calls)
        told = answers(handed_in)
        self.assertEqual(handed_in, calls)
        self.assertIs(type(told), list)
        for number in told:
            self.assertIs(type(number), int)
        return self.split(told)

    def split(self, told):
        """The answers one by one; the counts must lead just to the end."""
        parts = []
        at = 0
        while at < len(told):
            self.assertGreaterEqual(told[at], 1)
            behind = at + 1 + told[at]
            self.assertLessEqual(behind, len(told))
            parts.append(told[at + 1:behind])
            # A refusal is alone, and nothing else that is answered is below 0.
            self.assertTrue(len(parts[-1]) == 1 or min(parts[-1]) >= 0, parts[-1])
            at = behind
        return parts
