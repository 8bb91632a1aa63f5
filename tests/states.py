"""Lines that lead to a transaction in each state; worker 1 is at it, in epoch 1, with the batch 2."""

from tests.lines import BEGIN, EXPIRE, GRANTED, data, end, log, put, work

# The sums are 2, 4 and 6: transaction 1 has log 0 alone.
EVEN_OPEN = [
    (put(2), [1]),
    (put(2), [2]),
    (put(2), [3]),
    (work(1), BEGIN + [GRANTED]),
    (work(1), log(1, 1, 0) + [GRANTED]),
    (work(1), data(1, 1, 0, 1, 2) + [GRANTED]),
    (work(1), data(1, 1, 0, 2, 4) + [GRANTED]),
]
EVEN_TO_STAND = EVEN_OPEN + [(work(1), end(1, 1, 2, 4) + [GRANTED])]
EVEN_TO_GO = EVEN_OPEN + [(EXPIRE, [2])]

# The sums are 1, 3 and 5: transaction 1 has log 1 alone.
ODD_OPEN = [
    (put(1), [1]),
    (put(2), [2]),
    (put(2), [3]),
    (work(1), BEGIN + [GRANTED]),
    (work(1), log(1, 1, 1) + [GRANTED]),
    (work(1), data(1, 1, 1, 1, 1) + [GRANTED]),
    (work(1), data(1, 1, 1, 2, 3) + [GRANTED]),
]
ODD_TO_STAND = ODD_OPEN + [(work(1), end(1, 1, 2, 3) + [GRANTED])]
ODD_TO_GO = ODD_OPEN + [(EXPIRE, [2])]

# The sums are 2, 3 and 4: transaction 1 has both logs.
BOTH_OPEN = [
    (put(2), [1]),
    (put(1), [2]),
    (put(1), [3]),
    (work(1), BEGIN + [GRANTED]),
    (work(1), log(1, 1, 0) + [GRANTED]),
    (work(1), data(1, 1, 0, 1, 2) + [GRANTED]),
    (work(1), log(1, 1, 1) + [GRANTED]),
    (work(1), data(1, 1, 1, 1, 3) + [GRANTED]),
]
BOTH_TO_STAND = BOTH_OPEN + [(work(1), end(1, 1, 2, 3) + [GRANTED])]
BOTH_TO_GO = BOTH_OPEN + [(EXPIRE, [2])]
