"""push and expire: the markers, when a transaction is over, and what is kept then."""

import unittest

from tests.lines import (
    BEGIN, EXPIRE, GOES, GRANTED, IS_OPEN, KEEPER, LARGEST, NONE_UNDER_WAY, SHUT_OUT, STANDS, TO_GO, TO_STAND, WAIT,
    WITHOUT_EPOCH, LineCase,
    begin, crash, data, end, log, push, put, raw, read, records, seen, start, under_way, work, worker, wrote,
)
from tests.states import (
    BOTH_OPEN, BOTH_TO_GO, BOTH_TO_STAND, EVEN_OPEN, EVEN_TO_GO, EVEN_TO_STAND, ODD_OPEN, ODD_TO_GO, ODD_TO_STAND,
)

REFUSED = [(push(0), [-4]), (push(1), [-4])]
# Where the first transaction is to stand the keeper has its epoch still, where it is to go the next one.
EPOCH = {TO_STAND: 1, TO_GO: 2}

NO_SUCH_LOG = [(push(2), [-1]), (push(3), [-1]), (push(LARGEST), [-1])]


class PushRefusalTest(LineCase):
    def test_with_no_transaction(self):
        self.check(
            *REFUSED,
            *NO_SUCH_LOG,
            (KEEPER, [0, 0, 0, 0] + NONE_UNDER_WAY),
            (work(1), BEGIN + [GRANTED]),
            *REFUSED,
            *NO_SUCH_LOG,
            (KEEPER, [1, 0, 0, 0] + NONE_UNDER_WAY),
            (raw(0), [0]),
            (raw(1), [0]),
        )

    def test_with_an_open_one(self):
        for line, has in ((EVEN_OPEN, (1, 0)), (ODD_OPEN, (0, 1)), (BOTH_OPEN, (1, 1))):
            told = (KEEPER, [1, 0, 0, 0] + under_way(1, IS_OPEN, has, (0, 0)))
            self.check(*line, told, *REFUSED, *NO_SUCH_LOG, told, (read(0), [0]), (read(1), [0]))

    def test_refused_writes_nothing(self):
        for line in (BOTH_OPEN, BOTH_TO_STAND, BOTH_TO_GO):
            self.check(
                *line,
                *NO_SUCH_LOG,
                (raw(0), records(wrote(1, 2))),
                (raw(1), records(wrote(1, 3))),
            )

    def test_no_such_log_is_told_ahead_of_all_else(self):
        for line in ([], EVEN_OPEN, EVEN_TO_STAND, EVEN_TO_GO, ODD_TO_STAND, BOTH_TO_STAND, BOTH_TO_GO):
            self.check(*line, *NO_SUCH_LOG)

    def test_a_log_that_it_did_not_ask_for(self):
        for line, asked, other, state, has in (
            (EVEN_TO_STAND, 0, 1, TO_STAND, (1, 0)),
            (EVEN_TO_GO, 0, 1, TO_GO, (1, 0)),
            (ODD_TO_STAND, 1, 0, TO_STAND, (0, 1)),
            (ODD_TO_GO, 1, 0, TO_GO, (0, 1)),
        ):
            told = (KEEPER, [EPOCH[state], 0, 0, 0] + under_way(1, state, has, has))
            self.check(*line, told, (push(other), [-4]), told, (raw(other), [0]), (push(asked), [state]))

    def test_a_log_whose_marker_is_written_already(self):
        for line, state, marker in ((BOTH_TO_STAND, TO_STAND, STANDS), (BOTH_TO_GO, TO_GO, GOES)):
            told = (KEEPER, [EPOCH[state], 0, 0, 0] + under_way(1, state, (1, 1), (0, 1)))
            self.check(
                *line,
                (push(0), [state]),
                told,
                (push(0), [-4]),
                (push(2), [-1]),
                told,
                (raw(0), records(wrote(1, 2), marker)),
                (push(1), [state]),
                *REFUSED,
                *NO_SUCH_LOG,
                (raw(0), records(wrote(1, 2), marker)),
                (raw(1), records(wrote(1, 3), marker)),
            )

    def test_with_one_that_is_over(self):
        for line, j, state in (
            (EVEN_TO_STAND, 0, TO_STAND), (EVEN_TO_GO, 0, TO_GO), (ODD_TO_STAND, 1, TO_STAND), (ODD_TO_GO, 1, TO_GO),
        ):
            self.check(*line, (push(j), [state]), *REFUSED, *NO_SUCH_LOG)


class PushStandsTest(LineCase):
    def test_with_one_log(self):
        self.check(
            *EVEN_TO_STAND,
            (KEEPER, [1, 0, 0, 0] + under_way(1, TO_STAND, (1, 0), (1, 0))),
            (push(0), [1]),
            (KEEPER, [1, 1, 2, 4] + NONE_UNDER_WAY),
            (raw(0), records(wrote(1, 2), wrote(1, 4), STANDS)),
            (raw(1), [0]),
            (read(0), seen(2, 4)),
        )
        self.check(
            *ODD_TO_STAND,
            (KEEPER, [1, 0, 0, 0] + under_way(1, TO_STAND, (0, 1), (0, 1))),
            (push(1), [1]),
            (KEEPER, [1, 1, 2, 3] + NONE_UNDER_WAY),
            (raw(0), [0]),
            (raw(1), records(wrote(1, 1), wrote(1, 3), STANDS)),
            (read(1), seen(1, 3)),
        )

    def test_with_both_logs_it_is_over_behind_the_last_one(self):
        for first, last, lacks in ((0, 1, (0, 1)), (1, 0, (1, 0))):
            self.check(
                *BOTH_TO_STAND,
                (KEEPER, [1, 0, 0, 0] + under_way(1, TO_STAND, (1, 1), (1, 1))),
                (push(first), [1]),
                (KEEPER, [1, 0, 0, 0] + under_way(1, TO_STAND, (1, 1), lacks)),
                (read(first), seen(2 + first)),
                (read(last), [0]),
                (start(2), [0]),
                (work(2), BEGIN + [WAIT]),
                (work(1), log(1, 2, 0) + [WAIT]),
                (EXPIRE, [-4]),
                (push(last), [1]),
                (KEEPER, [1, 1, 2, 3] + NONE_UNDER_WAY),
                (read(0), seen(2)),
                (read(1), seen(3)),
            )

    def test_a_begin_behind_it_brings_what_is_kept(self):
        self.check(
            *BOTH_TO_STAND,
            (push(1), [1]),
            (push(0), [1]),
            (start(2), [0]),
            (work(2), BEGIN + [GRANTED]),
            (worker(2), [1, 2, 2, 3, 1, 0, 0]),
            (KEEPER, [2, 0, 2, 3] + NONE_UNDER_WAY),
            (work(2), log(2, 1, 0) + [GRANTED]),
            (work(2), data(2, 1, 0, 1, 4) + [GRANTED]),
            (work(2), end(2, 1, 3, 4) + [GRANTED]),
            (KEEPER, [2, 0, 2, 3] + under_way(1, TO_STAND, (1, 0), (1, 0))),
            (push(0), [1]),
            (KEEPER, [2, 1, 3, 4] + NONE_UNDER_WAY),
            (read(0), seen(2, 4)),
            (read(1), seen(3)),
        )

    def test_the_log_takes_the_next_number_of_its_epoch_behind_it(self):
        self.check(
            *EVEN_TO_STAND,
            (push(0), [1]),
            (work(1), log(1, 2, 0) + [GRANTED]),
            (work(1), data(1, 2, 0, 3, 6) + [GRANTED]),
            (raw(0), records(wrote(1, 2), wrote(1, 4), STANDS, wrote(1, 6))),
        )


class PushGoesTest(LineCase):
    def test_with_one_log(self):
        self.check(
            *EVEN_TO_GO,
            (KEEPER, [2, 0, 0, 0] + under_way(1, TO_GO, (1, 0), (1, 0))),
            (push(0), [2]),
            (KEEPER, [2, 1, 0, 0] + NONE_UNDER_WAY),
            (raw(0), records(wrote(1, 2), wrote(1, 4), GOES)),
            (raw(1), [0]),
            (read(0), [0]),
        )
        self.check(
            *ODD_TO_GO,
            (push(1), [2]),
            (KEEPER, [2, 1, 0, 0] + NONE_UNDER_WAY),
            (raw(0), [0]),
            (raw(1), records(wrote(1, 1), wrote(1, 3), GOES)),
            (read(1), [0]),
        )

    def test_with_both_logs_it_is_over_behind_the_last_one(self):
        for first, last, lacks in ((0, 1, (0, 1)), (1, 0, (1, 0))):
            self.check(
                *BOTH_TO_GO,
                (KEEPER, [2, 0, 0, 0] + under_way(1, TO_GO, (1, 1), (1, 1))),
                (push(first), [2]),
                (KEEPER, [2, 0, 0, 0] + under_way(1, TO_GO, (1, 1), lacks)),
                (start(2), [0]),
                (work(2), BEGIN + [WAIT]),
                (EXPIRE, [-4]),
                (push(last), [2]),
                (KEEPER, [2, 1, 0, 0] + NONE_UNDER_WAY),
                (read(0), [0]),
                (read(1), [0]),
                (work(2), BEGIN + [GRANTED]),
                (worker(2), [1, 3, 0, 0, 1, 0, 0]),
                (KEEPER, [3, 0, 0, 0] + NONE_UNDER_WAY),
            )

    def test_undone_by_a_begin_it_goes_as_well(self):
        self.check(
            *BOTH_OPEN,
            (crash(1), [0]),
            (start(3), [0]),
            (work(3), BEGIN + [WAIT]),
            (KEEPER, [2, 0, 0, 0] + under_way(1, TO_GO, (1, 1), (1, 1))),
            (push(1), [2]),
            (work(3), BEGIN + [WAIT]),
            (push(0), [2]),
            (work(3), BEGIN + [GRANTED]),
            (worker(3), [1, 3, 0, 0, 1, 0, 0]),
        )

    def test_the_place_and_the_sum_that_are_kept_stay(self):
        self.check(
            *EVEN_TO_STAND,
            (push(0), [1]),
            (work(1), log(1, 2, 0) + [GRANTED]),
            (work(1), data(1, 2, 0, 3, 6) + [GRANTED]),
            (EXPIRE, [2]),
            (KEEPER, [2, 1, 2, 4] + under_way(2, TO_GO, (1, 0), (1, 0))),
            (push(0), [2]),
            (KEEPER, [2, 2, 2, 4] + NONE_UNDER_WAY),
            (raw(0), records(wrote(1, 2), wrote(1, 4), STANDS, wrote(1, 6), GOES)),
            (read(0), seen(2, 4)),
            (work(1), end(1, 2, 3, 6) + [SHUT_OUT]),
            (work(1), BEGIN + [GRANTED]),
            (worker(1), [1, 3, 2, 4, 1, 0, 0]),
            (work(1), log(3, 1, 0) + [GRANTED]),
            (work(1), data(3, 1, 0, 1, 6) + [GRANTED]),
            (work(1), end(3, 1, 3, 6) + [GRANTED]),
            (push(0), [1]),
            (read(0), seen(2, 4, 6)),
        )

    def test_the_log_shuts_out_the_epoch_before(self):
        self.check(
            (begin(5), [0]),
            *EVEN_OPEN,
            (EXPIRE, [2]),
            (push(0), [2]),
            (work(1), data(1, 1, 0, 3, 6) + [SHUT_OUT]),
            (worker(1), WITHOUT_EPOCH),
            (raw(0), records(wrote(1, 2), wrote(1, 4), GOES)),
        )

    def test_a_log_without_its_marker_still_takes_the_epoch_before(self):
        self.check(
            (begin(5), [0]),
            *BOTH_OPEN,
            (put(1), [4]),
            (EXPIRE, [2]),
            (push(1), [2]),
            (work(1), data(1, 1, 0, 2, 4) + [GRANTED]),
            (work(1), data(1, 1, 1, 2, 5) + [SHUT_OUT]),
            (raw(0), records(wrote(1, 2), wrote(1, 4))),
            (push(0), [2]),
            (raw(0), records(wrote(1, 2), wrote(1, 4), GOES)),
            (raw(1), records(wrote(1, 3), GOES)),
            (read(0), [0]),
            (read(1), [0]),
        )

    def test_the_next_epoch_counts_from_1_behind_it(self):
        self.check(
            *EVEN_TO_GO,
            (push(0), [2]),
            (crash(1), [0]),
            (start(2), [0]),
            (work(2), BEGIN + [GRANTED]),
            (work(2), log(3, 1, 0) + [GRANTED]),
            (work(2), data(3, 1, 0, 1, 2) + [GRANTED]),
            (work(2), data(3, 1, 0, 2, 4) + [GRANTED]),
            (work(2), end(3, 1, 2, 4) + [GRANTED]),
            (push(0), [1]),
            (raw(0), records(wrote(1, 2), wrote(1, 4), GOES, wrote(3, 2), wrote(3, 4), STANDS)),
            (read(0), seen(2, 4)),
        )


class ExpireTest(LineCase):
    def test_with_no_transaction(self):
        self.check(
            (EXPIRE, [-4]),
            (KEEPER, [0, 0, 0, 0] + NONE_UNDER_WAY),
            (work(1), BEGIN + [GRANTED]),
            (EXPIRE, [-4]),
            (KEEPER, [1, 0, 0, 0] + NONE_UNDER_WAY),
        )

    def test_with_an_open_one(self):
        for line, has in ((EVEN_OPEN, (1, 0)), (ODD_OPEN, (0, 1)), (BOTH_OPEN, (1, 1))):
            self.check(
                *line,
                (KEEPER, [1, 0, 0, 0] + under_way(1, IS_OPEN, has, (0, 0))),
                (EXPIRE, [2]),
                (KEEPER, [2, 0, 0, 0] + under_way(1, TO_GO, has, has)),
            )

    def test_with_one_to_stand_and_one_to_go(self):
        for line, state in ((BOTH_TO_STAND, TO_STAND), (BOTH_TO_GO, TO_GO)):
            told = (KEEPER, [EPOCH[state], 0, 0, 0] + under_way(1, state, (1, 1), (1, 1)))
            self.check(*line, told, (EXPIRE, [-4]), (EXPIRE, [-4]), told, (push(0), [state]), (EXPIRE, [-4]))

    def test_with_one_that_is_over(self):
        for line, told in (
            (EVEN_TO_STAND + [(push(0), [1])], [1, 1, 2, 4]),
            (EVEN_TO_GO + [(push(0), [2])], [2, 1, 0, 0]),
        ):
            self.check(*line, (EXPIRE, [-4]), (KEEPER, told + NONE_UNDER_WAY))

    def test_the_last_one_ended_is_as_it_was(self):
        self.check(
            *EVEN_TO_STAND,
            (push(0), [1]),
            (work(1), log(1, 2, 0) + [GRANTED]),
            (EXPIRE, [2]),
            (KEEPER, [2, 1, 2, 4] + under_way(2, TO_GO, (1, 0), (1, 0))),
        )

    def test_the_epoch_goes_up_each_time(self):
        steps = [(put(2), [1])]
        for epoch in range(1, 60, 2):
            steps += [
                (work(1), BEGIN + [GRANTED]),
                (work(1), log(epoch, 1, 0) + [GRANTED]),
                (EXPIRE, [epoch + 1]),
                (push(0), [2]),
                (work(1), data(epoch, 1, 0, 1, 2) + [SHUT_OUT]),
            ]
        self.check(*steps, (KEEPER, [60, 1, 0, 0] + NONE_UNDER_WAY), (raw(0), records(*[GOES] * 30)))

    def test_its_worker_is_told_nothing(self):
        self.check(*EVEN_OPEN, (EXPIRE, [2]), (worker(1), [1, 1, 2, 4, 1, 2, 0]))

    def test_a_worker_of_the_epoch_before_asks_for_a_log(self):
        self.check(
            (put(2), [1]),
            (put(1), [2]),
            (work(1), BEGIN + [GRANTED]),
            (work(1), log(1, 1, 0) + [GRANTED]),
            (work(1), data(1, 1, 0, 1, 2) + [GRANTED]),
            (EXPIRE, [2]),
            (work(1), log(1, 1, 1) + [SHUT_OUT]),
            (worker(1), WITHOUT_EPOCH),
            (KEEPER, [2, 0, 0, 0] + under_way(1, TO_GO, (1, 0), (1, 0))),
            (work(1), BEGIN + [WAIT]),
        )

    def test_a_worker_of_the_epoch_before_asks_for_data(self):
        self.check(
            *EVEN_OPEN[:-1],
            (EXPIRE, [2]),
            (work(1), data(1, 1, 0, 2, 4) + [GRANTED]),
            (worker(1), [1, 1, 2, 4, 1, 2, 0]),
            (raw(0), records(wrote(1, 2), wrote(1, 4))),
            (push(0), [2]),
            (read(0), [0]),
        )
        self.check(
            *EVEN_OPEN[:-1],
            (EXPIRE, [2]),
            (push(0), [2]),
            (work(1), data(1, 1, 0, 2, 4) + [SHUT_OUT]),
            (worker(1), WITHOUT_EPOCH),
            (raw(0), records(wrote(1, 2), GOES)),
        )

    def test_a_worker_of_the_epoch_before_asks_to_end(self):
        for pushes in ([], [(push(0), [2])]):
            self.check(
                *EVEN_OPEN,
                (EXPIRE, [2]),
                *pushes,
                (work(1), end(1, 1, 2, 4) + [SHUT_OUT]),
                (worker(1), WITHOUT_EPOCH),
                (work(1), BEGIN + [GRANTED if pushes else WAIT]),
            )


if __name__ == "__main__":
    unittest.main()
