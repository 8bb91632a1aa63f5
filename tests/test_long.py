"""Lines of 200 calls in which all goes wrong that can: a reader sees the sums of the input up to a place, each once."""

import unittest

from tests.lines import (
    AIR, EXPIRE, KEEPER, LARGEST, LOST, SENT, SERVED, TO_STAND, UNHEARD, LineCase,
    arrive, begin, crash, push, put, raw, read, start, work, worker,
)

MODULUS = 1000003

# What is looked at again and again: the keeper, and behind it all that a reader sees.
LOOK = [KEEPER, read(0), read(1)]

VALUES = (0, 1, 1, 2, 3, 5, 8, 999, 1000)
HOWS = (SERVED, SERVED, SERVED, SERVED, SERVED, UNHEARD, LOST, SENT, SENT)
REFUSED = (
    begin(0), begin(LARGEST), put(1001), work(0), work(4), work(1, 4), arrive(0), arrive(LARGEST), crash(4), start(0),
    push(2), read(2), raw(LARGEST), worker(0),
)


class Dice:
    """Throws that come the same each time."""

    def __init__(self, seed):
        self.state = seed

    def throw(self, sides):
        self.state = (self.state * 6364136223846793005 + 1442695040888963407) % 2 ** 64
        return (self.state >> 33) % sides

    def pick(self, choices):
        return choices[self.throw(len(choices))]


def any_call(dice, workers):
    """One call; what makes a job go on comes most often."""
    i = 1 + dice.throw(workers)
    j = dice.throw(2)
    at = dice.throw(1000)
    for below, call in (
        (500, lambda: work(i, dice.pick(HOWS))),
        (600, lambda: put(dice.pick(VALUES))),
        (760, lambda: push(j)),
        (850, lambda: arrive(1 + dice.throw(6))),
        (870, lambda: EXPIRE),
        (895, lambda: crash(i)),
        (940, lambda: start(i)),
        (950, lambda: AIR),
        (960, lambda: raw(j)),
        (970, lambda: worker(i)),
        (980, lambda: read(j, dice.throw(4))),
        (998, lambda: dice.pick(REFUSED)),
    ):
        if at < below:
            return call()
    return begin(1 + dice.throw(5))


def sums_of(values, j):
    """The sums of all the values that belong in log j, in order."""
    total = 0
    sums = []
    for value in values:
        total = (total + value) % MODULUS
        if total % 2 == j:
            sums.append(total)
    return sums


class Reader:
    """What a line's calls and answers tell of the input, and of where each end leads."""

    def __init__(self):
        self.begin()

    def begin(self):
        self.values = []
        self.ends = {}

    def take(self, call, answer):
        if call[0] == 0 and answer == [0]:
            self.begin()
        if call[0] == 1 and answer[0] > 0:
            self.values.append(call[1])
        if call[0] == 2 and answer[0] == 4:
            self.ends[answer[1], answer[2]] = answer[3]

    def place_of(self, kept, j):
        """How far log j shows the sums: the place kept, or where one leads whose marker log j has already."""
        if kept[4] == 1 and kept[6] == TO_STAND and kept[7 + j] == 1 and kept[9 + j] == 0:
            return self.ends[kept[0], kept[5]]
        return kept[2]


class LongLineCase(LineCase):
    def look(self, calls):
        """All answers, after each look in them was held against the input."""
        told = self.told(calls)
        reader = Reader()
        for at, call in enumerate(calls):
            reader.take(call, told[at])
            if calls[at:at + 3] == LOOK:
                self.hold(reader, told[at:at + 3])
        return told, reader

    def hold(self, reader, looked):
        kept = looked[0]
        self.assertEqual(kept[3], sum(reader.values[:kept[2]]) % MODULUS)
        for j in (0, 1):
            sums = sums_of(reader.values[:reader.place_of(kept, j)], j)
            self.assertEqual(looked[1 + j], [len(sums)] + sums)


class AllCallsTest(LongLineCase):
    def line(self, seed, workers):
        """Up to 200 calls of 600 numbers, with a look behind every eighth."""
        dice = Dice(seed)
        calls = [begin(1 + dice.throw(5)), put(dice.pick(VALUES)), put(dice.pick(VALUES))]
        calls += [start(i) for i in range(2, workers + 1)]
        while len(calls) + 11 <= 200:
            calls += [any_call(dice, workers) for _ in range(8)] + LOOK
        return calls + [AIR] * (200 - len(calls))

    def test_a_reader_sees_each_sum_once(self):
        counts = {}
        for workers in (2, 3):
            for seed in range(200):
                calls = self.line(seed, workers)
                told, _ = self.look(calls)
                self.count(calls, told, counts)
        # Lines in which nothing happens would show nothing.
        for what in (
            "stands", "goes", "shut out", "waits", "arrives", "undone", "replaced data", "begins", "sums seen",
        ):
            self.assertGreater(counts.get(what, 0), 50, what)
        for number in range(13):
            self.assertGreater(counts.get(number, 0), 50, number)

    def count(self, calls, told, counts):
        for call, answer in zip(calls, told):
            names = [call[0]]
            if call[0] == 7 and answer[0] > 0:
                names.append("stands" if answer[0] == 1 else "goes")
            if call[0] == 2 and call[2:] == [SERVED] and len(answer) > 1:
                names.append({1: "granted", 2: "waits", 3: "shut out"}[answer[-1]])
            if call[0] == 3 and answer[0] > 0:
                names.append("arrives")
                if answer[0] == 3 and answer[-1] == 3:
                    names.append("replaced data")
            if call[0] == 8 and answer[0] > 0:
                names.append("undone")
            if call[0] == 0 and answer == [0]:
                names.append("begins")
            if call[0] == 9 and answer[0] > 0:
                names.append("sums seen")
            for name in names:
                counts[name] = counts.get(name, 0) + 1

    def test_what_is_seen_once_stays(self):
        for seed in range(60):
            calls = [call for call in self.line(seed, 3)[1:] if call[0] != 0]
            told = self.told(calls)
            for j in (0, 1):
                before = []
                for call, answer in zip(calls, told):
                    if call == read(j):
                        self.assertEqual(answer[1:len(before) + 1], before)
                        before = answer[1:]

    def test_the_same_line_twice(self):
        for seed in range(20):
            calls = self.line(seed, 3)
            first = self.told(calls)
            self.told(self.line(seed + 1000, 2))
            self.assertEqual(self.told(calls), first)


class GoOnTest(LongLineCase):
    def test_from_wherever_things_are(self):
        for workers in (2, 3):
            for seed in range(150):
                dice = Dice(seed)
                calls = [begin(1 + dice.throw(5))] + [put(dice.pick(VALUES)) for _ in range(6)]
                calls += [start(i) for i in range(2, workers + 1)]
                later = [any_call(dice, workers) for _ in range(75)]
                # The input stays short enough that one worker comes to its end within the line.
                calls += [call for call in later if call[0] > 1]
                calls += [start(3)] + [work(3), push(0), push(1)] * 34 + [work(3)] + LOOK
                told, reader = self.look(calls)
                self.assertEqual(told[-4], [0], "worker 3 is at the end")
                self.assertEqual(told[-3][2], len(reader.values))
                self.assertEqual(told[-3][4:], [0])


class OneWorkerTest(LongLineCase):
    def test_without_a_fault(self):
        for batch in (1, 2, 3, 4, 5):
            values = [(7 * at) % 11 for at in range(20)]
            calls = [begin(batch)] + [put(value) for value in values] + [work(1), push(0), push(1)] * 58 + LOOK
            told, reader = self.look(calls)
            self.assertGreater(told[-3][2], 15)
            self.assertEqual(told[-3][0], 1)

    def test_every_request_twice_and_the_first_answer_lost(self):
        values = [1, 1, 1, 1, 2, 2, 2, 2]
        calls = [begin(2)] + [put(value) for value in values]
        calls += [work(1, UNHEARD), work(1), push(0), push(1)] * 40 + LOOK
        told, reader = self.look(calls)
        self.assertEqual(told[-3][2], len(values))
        self.assertEqual(told[-2], [6, 2, 4, 6, 8, 10, 12])
        self.assertEqual(told[-1], [2, 1, 3])

    def test_a_long_log(self):
        calls = [put(0)] * 30 + [begin(5)] + [put(2)] * 60 + [work(1)] + [work(1), push(0)] * 50
        calls += [raw(0), read(0), read(1), KEEPER]
        told = self.told(calls)
        self.assertEqual(told[-3][1:], [2 * at for at in range(1, told[-3][0] + 1)])
        self.assertGreater(told[-3][0], 30)


if __name__ == "__main__":
    unittest.main()
