"""read, raw, worker and keeper: what they tell, number by number, and that they change nothing."""

import unittest

from tests.lines import (
    BEGIN, DOWN, EXPIRE, GOES, GRANTED, IS_OPEN, KEEPER, LARGEST, LOST, NONE_UNDER_WAY, SENT, SHUT_OUT, STANDS, TO_GO,
    TO_STAND, UNHEARD, WAIT, WITHOUT_EPOCH, LineCase,
    arrive, begin, crash, data, end, log, push, put, raw, read, records, seen, start, under_way, work, worker, wrote,
)
from tests.states import BOTH_OPEN, BOTH_TO_GO, BOTH_TO_STAND, EVEN_OPEN, EVEN_TO_GO, EVEN_TO_STAND, ODD_OPEN

# With the batch 1 and the sums 2, 4, 6, 8, 10: transactions that stand (2, 4), go (6, and 6 again) and stand (6, 8).
MIXED = [(begin(1), [0])] + [(put(2), [place]) for place in (1, 2, 3, 4, 5)] + [
    (work(1), BEGIN + [GRANTED]),
    (work(1), log(1, 1, 0) + [GRANTED]),
    (work(1), data(1, 1, 0, 1, 2) + [GRANTED]),
    (work(1), end(1, 1, 1, 2) + [GRANTED]),
    (push(0), [1]),
    (work(1), log(1, 2, 0) + [GRANTED]),
    (work(1), data(1, 2, 0, 2, 4) + [GRANTED]),
    (work(1), end(1, 2, 2, 4) + [GRANTED]),
    (push(0), [1]),
    (work(1), log(1, 3, 0) + [GRANTED]),
    (work(1), data(1, 3, 0, 3, 6) + [GRANTED]),
    (EXPIRE, [2]),
    (push(0), [2]),
    (work(1), end(1, 3, 3, 6) + [SHUT_OUT]),
    (work(1), BEGIN + [GRANTED]),
    (work(1), log(3, 1, 0) + [GRANTED]),
    (work(1), data(3, 1, 0, 1, 6) + [GRANTED]),
    (EXPIRE, [4]),
    (push(0), [2]),
    (work(1), end(3, 1, 3, 6) + [SHUT_OUT]),
    (work(1), BEGIN + [GRANTED]),
    (work(1), log(5, 1, 0) + [GRANTED]),
    (work(1), data(5, 1, 0, 1, 6) + [GRANTED]),
    (work(1), end(5, 1, 3, 6) + [GRANTED]),
    (push(0), [1]),
    (work(1), log(5, 2, 0) + [GRANTED]),
    (work(1), data(5, 2, 0, 2, 8) + [GRANTED]),
    (work(1), end(5, 2, 4, 8) + [GRANTED]),
    (push(0), [1]),
]
MIXED_RECORDS = [
    wrote(1, 2), STANDS, wrote(1, 4), STANDS, wrote(1, 6), GOES, wrote(3, 6), GOES, wrote(5, 6), STANDS,
    wrote(5, 8), STANDS,
]


class ReadTest(LineCase):
    def test_no_such_log(self):
        for j in (2, 3, LARGEST):
            for n in (0, 1, LARGEST):
                self.check((read(j, n), [-1]))
                self.check(*MIXED, (read(j, n), [-1]), (read(0), seen(2, 4, 6, 8)))

    def test_an_empty_log(self):
        for j in (0, 1):
            for n in (0, 1, 2, LARGEST):
                self.check((read(j, n), [0]))

    def test_the_first_n_are_passed_over(self):
        self.check(
            *MIXED,
            (read(0, 0), seen(2, 4, 6, 8)),
            (read(0, 1), seen(4, 6, 8)),
            (read(0, 2), seen(6, 8)),
            (read(0, 3), seen(8)),
            (read(0, 4), [0]),
            (read(0, 5), [0]),
            (read(0, LARGEST), [0]),
            (read(1, 0), [0]),
            (read(1, 1), [0]),
        )

    def test_whatever_was_read_earlier(self):
        self.check(*MIXED, *[(read(0, 1), seen(4, 6, 8))] * 3, (read(0, 0), seen(2, 4, 6, 8)))

    def test_each_log_by_itself(self):
        self.check(
            *BOTH_TO_STAND,
            (push(0), [1]),
            (push(1), [1]),
            (read(0), seen(2)),
            (read(1), seen(3)),
            (read(0, 1), [0]),
            (read(1, 1), [0]),
        )

    def test_data_with_no_marker_behind(self):
        for line in (BOTH_OPEN, BOTH_TO_STAND, BOTH_TO_GO):
            self.check(*line, (read(0), [0]), (read(1), [0]), (read(0, 1), [0]))

    def test_data_with_no_marker_behind_what_stands(self):
        self.check(
            *MIXED,
            (work(1), log(5, 3, 0) + [GRANTED]),
            (work(1), data(5, 3, 0, 3, 10) + [GRANTED]),
            (read(0), seen(2, 4, 6, 8)),
            (work(1), end(5, 3, 5, 10) + [GRANTED]),
            (read(0), seen(2, 4, 6, 8)),
            (push(0), [1]),
            (read(0), seen(2, 4, 6, 8, 10)),
            (read(0, 4), seen(10)),
        )

    def test_data_with_goes_behind(self):
        self.check(*BOTH_TO_GO, (push(0), [2]), (push(1), [2]), (read(0), [0]), (read(1), [0]))

    def test_a_marker_with_no_data_ahead_of_it(self):
        self.check(
            (put(2), [1]),
            (work(1), BEGIN + [GRANTED]),
            (work(1), log(1, 1, 0) + [GRANTED]),
            (EXPIRE, [2]),
            (push(0), [2]),
            (raw(0), records(GOES)),
            (read(0), [0]),
            (work(1), data(1, 1, 0, 1, 2) + [SHUT_OUT]),
            (work(1), BEGIN + [GRANTED]),
            (work(1), log(3, 1, 0) + [GRANTED]),
            (work(1), data(3, 1, 0, 1, 2) + [GRANTED]),
            (work(1), end(3, 1, 1, 2) + [GRANTED]),
            (push(0), [1]),
            (raw(0), records(GOES, wrote(3, 2), STANDS)),
            (read(0), seen(2)),
        )

    def test_a_goes_with_no_data_takes_nothing_from_what_stood_before(self):
        self.check(
            *EVEN_TO_STAND,
            (push(0), [1]),
            (work(1), log(1, 2, 0) + [GRANTED]),
            (EXPIRE, [2]),
            (push(0), [2]),
            (raw(0), records(wrote(1, 2), wrote(1, 4), STANDS, GOES)),
            (read(0), seen(2, 4)),
        )

    def test_data_of_a_replaced_worker_between_two_markers(self):
        self.check(
            *EVEN_TO_STAND,
            (push(0), [1]),
            (work(1), log(1, 2, 0) + [GRANTED]),
            (start(2), [0]),
            # Worker 2 takes over; worker 1 was only slow, and writes once more.
            (work(2), BEGIN + [WAIT]),
            (work(1), data(1, 2, 0, 3, 6) + [GRANTED]),
            (raw(0), records(wrote(1, 2), wrote(1, 4), STANDS, wrote(1, 6))),
            (read(0), seen(2, 4)),
            (push(0), [2]),
            (read(0), seen(2, 4)),
            (work(2), BEGIN + [GRANTED]),
            (work(2), log(3, 1, 0) + [GRANTED]),
            (work(2), data(3, 1, 0, 1, 6) + [GRANTED]),
            (work(1), end(1, 2, 3, 6) + [SHUT_OUT]),
            (work(2), end(3, 1, 3, 6) + [GRANTED]),
            (push(0), [1]),
            (raw(0), records(wrote(1, 2), wrote(1, 4), STANDS, wrote(1, 6), GOES, wrote(3, 6), STANDS)),
            (read(0), seen(2, 4, 6)),
        )

    def test_the_same_sum_twice_is_seen_twice_where_the_input_has_it_so(self):
        self.check(
            (put(2), [1]),
            (put(0), [2]),
            (work(1), BEGIN + [GRANTED]),
            (work(1), log(1, 1, 0) + [GRANTED]),
            (work(1), data(1, 1, 0, 1, 2) + [GRANTED]),
            (work(1), data(1, 1, 0, 2, 2) + [GRANTED]),
            (work(1), end(1, 1, 2, 2) + [GRANTED]),
            (push(0), [1]),
            (read(0), seen(2, 2)),
        )


class RawTest(LineCase):
    def test_no_such_log(self):
        for j in (2, 3, LARGEST):
            self.check((raw(j), [-1]))
            self.check(*MIXED, (raw(j), [-1]), (raw(0), records(*MIXED_RECORDS)))

    def test_an_empty_log(self):
        self.check((raw(0), [0]), (raw(1), [0]))
        self.check(*EVEN_OPEN, (raw(1), [0]))
        self.check(*ODD_OPEN, (raw(0), [0]))

    def test_data_alone(self):
        self.check(*BOTH_OPEN, (raw(0), records(wrote(1, 2))), (raw(1), records(wrote(1, 3))))

    def test_all_three_kinds_in_one_log(self):
        self.check(*MIXED, (raw(0), records(*MIXED_RECORDS)), (raw(1), [0]))
        self.check(*MIXED, (raw(0), [
            12, 1, 1, 2, 2, 1, 1, 4, 2, 1, 1, 6, 3, 1, 3, 6, 3, 1, 5, 6, 2, 1, 5, 8, 2,
        ]))

    def test_what_comes_twice_is_written_once(self):
        self.check(
            *EVEN_OPEN[:5],
            (work(1, UNHEARD), data(1, 1, 0, 1, 2)),
            (work(1, SENT), data(1, 1, 0, 1, 2)),
            (work(1, LOST), data(1, 1, 0, 1, 2)),
            (raw(0), records(wrote(1, 2))),
            (work(1), data(1, 1, 0, 1, 2) + [GRANTED]),
            (raw(0), records(wrote(1, 2))),
            (work(1), data(1, 1, 0, 2, 4) + [GRANTED]),
            (arrive(1), data(1, 1, 0, 1, 2) + [GRANTED]),
            (raw(0), records(wrote(1, 2), wrote(1, 4))),
        )

    def test_what_is_lost_or_in_the_air_is_not_written(self):
        self.check(
            *EVEN_OPEN[:5],
            (work(1, LOST), data(1, 1, 0, 1, 2)),
            (raw(0), [0]),
            (work(1, SENT), data(1, 1, 0, 1, 2)),
            (raw(0), [0]),
            (arrive(1), data(1, 1, 0, 1, 2) + [GRANTED]),
            (raw(0), records(wrote(1, 2))),
        )


class WorkerTest(LineCase):
    def test_no_such_worker(self):
        for i in (0, 4, 5, LARGEST):
            self.check((worker(i), [-1]))

    def test_at_first(self):
        self.check((worker(1), WITHOUT_EPOCH), (worker(2), DOWN), (worker(3), DOWN))

    def test_each_one_up_and_down(self):
        self.check(
            (start(3), [0]),
            (worker(3), WITHOUT_EPOCH),
            (worker(2), DOWN),
            (start(2), [0]),
            (crash(1), [0]),
            (worker(1), DOWN),
            (worker(2), WITHOUT_EPOCH),
            (work(3), BEGIN + [GRANTED]),
            (worker(3), [1, 1, 0, 0, 1, 0, 0]),
            (work(2), BEGIN + [GRANTED]),
            (worker(2), [1, 2, 0, 0, 1, 0, 0]),
            (worker(3), [1, 1, 0, 0, 1, 0, 0]),
            (worker(1), DOWN),
        )

    def test_step_by_step(self):
        self.check(
            (put(2), [1]),
            (put(1), [2]),
            (put(7), [3]),
            (worker(1), WITHOUT_EPOCH),
            (work(1), BEGIN + [GRANTED]),
            (worker(1), [1, 1, 0, 0, 1, 0, 0]),
            (work(1), log(1, 1, 0) + [GRANTED]),
            (worker(1), [1, 1, 0, 0, 1, 0, 0]),
            (work(1), data(1, 1, 0, 1, 2) + [GRANTED]),
            (worker(1), [1, 1, 1, 2, 1, 1, 0]),
            (work(1), log(1, 1, 1) + [GRANTED]),
            (work(1), data(1, 1, 1, 1, 3) + [GRANTED]),
            (worker(1), [1, 1, 2, 3, 1, 2, 0]),
            (work(1, LOST), end(1, 1, 2, 3)),
            (worker(1), [1, 1, 2, 3, 1, 2, 1]),
            (work(1), end(1, 1, 2, 3) + [GRANTED]),
            (worker(1), [1, 1, 2, 3, 2, 0, 0]),
            (work(1), log(1, 2, 0) + [WAIT]),
            (worker(1), [1, 1, 2, 3, 2, 0, 0]),
        )

    def test_who_asks_to_end_is_ending_however_it_goes(self):
        for how in (UNHEARD, LOST, SENT):
            self.check(
                *EVEN_OPEN,
                (worker(1), [1, 1, 2, 4, 1, 2, 0]),
                (work(1, how), end(1, 1, 2, 4)),
                (worker(1), [1, 1, 2, 4, 1, 2, 1]),
                (worker(1), [1, 1, 2, 4, 1, 2, 1]),
            )

    def test_an_answer_that_nobody_hears_changes_no_worker(self):
        self.check(
            (put(2), [1]),
            (work(1, UNHEARD), BEGIN),
            (worker(1), WITHOUT_EPOCH),
            (work(1, SENT), BEGIN),
            (arrive(1), BEGIN + [GRANTED]),
            (worker(1), WITHOUT_EPOCH),
            (work(1), BEGIN + [GRANTED]),
            (worker(1), [1, 3, 0, 0, 1, 0, 0]),
        )

    def test_one_that_waits_for_begin_has_no_epoch(self):
        self.check(*EVEN_OPEN, (start(2), [0]), (work(2), BEGIN + [WAIT]), (worker(2), WITHOUT_EPOCH))

    def test_one_that_was_shut_out(self):
        for how in (LOST, UNHEARD):
            self.check(
                *EVEN_OPEN,
                (work(1, LOST), end(1, 1, 2, 4)),
                (EXPIRE, [2]),
                (work(1, how), end(1, 1, 2, 4)),
                (worker(1), [1, 1, 2, 4, 1, 2, 1]),
                (work(1), end(1, 1, 2, 4) + [SHUT_OUT]),
                (worker(1), WITHOUT_EPOCH),
            )

    def test_one_that_crashed_and_started_again(self):
        for line in (EVEN_OPEN, EVEN_OPEN + [(work(1, LOST), end(1, 1, 2, 4))], EVEN_TO_STAND):
            self.check(
                *line,
                (crash(1), [0]),
                (worker(1), DOWN),
                (start(1), [0]),
                (worker(1), WITHOUT_EPOCH),
                (work(1), BEGIN + [WAIT]),
                (worker(1), WITHOUT_EPOCH),
            )


class KeeperTest(LineCase):
    def test_at_first(self):
        self.check((KEEPER, [0, 0, 0, 0, 0]))

    def test_a_begin_that_is_granted(self):
        self.check(
            (work(1, LOST), BEGIN),
            (KEEPER, [0, 0, 0, 0, 0]),
            (work(1, UNHEARD), BEGIN),
            (KEEPER, [1, 0, 0, 0, 0]),
            (work(1, SENT), BEGIN),
            (KEEPER, [1, 0, 0, 0, 0]),
            (arrive(1), BEGIN + [GRANTED]),
            (KEEPER, [2, 0, 0, 0, 0]),
            (work(1), BEGIN + [GRANTED]),
            (KEEPER, [3, 0, 0, 0, 0]),
        )

    def test_number_by_number(self):
        self.check(*EVEN_OPEN, (KEEPER, [1, 0, 0, 0, 1, 1, 0, 1, 0, 0, 0]))
        self.check(*ODD_OPEN, (KEEPER, [1, 0, 0, 0, 1, 1, 0, 0, 1, 0, 0]))
        self.check(*BOTH_OPEN, (KEEPER, [1, 0, 0, 0, 1, 1, 0, 1, 1, 0, 0]))
        self.check(*BOTH_TO_STAND, (KEEPER, [1, 0, 0, 0, 1, 1, 1, 1, 1, 1, 1]))
        self.check(*BOTH_TO_STAND, (push(0), [1]), (KEEPER, [1, 0, 0, 0, 1, 1, 1, 1, 1, 0, 1]))
        self.check(*BOTH_TO_STAND, (push(1), [1]), (KEEPER, [1, 0, 0, 0, 1, 1, 1, 1, 1, 1, 0]))
        self.check(*BOTH_TO_GO, (KEEPER, [2, 0, 0, 0, 1, 1, 2, 1, 1, 1, 1]))
        self.check(*BOTH_TO_GO, (push(0), [2]), (KEEPER, [2, 0, 0, 0, 1, 1, 2, 1, 1, 0, 1]))
        self.check(*BOTH_TO_GO, (push(1), [2]), (KEEPER, [2, 0, 0, 0, 1, 1, 2, 1, 1, 1, 0]))

    def test_logs_are_told_as_they_are_asked_for(self):
        self.check(
            (put(1), [1]),
            (put(1), [2]),
            (work(1), BEGIN + [GRANTED]),
            (KEEPER, [1, 0, 0, 0] + NONE_UNDER_WAY),
            (work(1, LOST), log(1, 1, 1)),
            (KEEPER, [1, 0, 0, 0] + NONE_UNDER_WAY),
            (work(1, UNHEARD), log(1, 1, 1)),
            (KEEPER, [1, 0, 0, 0] + under_way(1, IS_OPEN, (0, 1), (0, 0))),
            (work(1), log(1, 1, 1) + [GRANTED]),
            (work(1), data(1, 1, 1, 1, 1) + [GRANTED]),
            (KEEPER, [1, 0, 0, 0] + under_way(1, IS_OPEN, (0, 1), (0, 0))),
            (work(1), log(1, 1, 0) + [GRANTED]),
            (KEEPER, [1, 0, 0, 0] + under_way(1, IS_OPEN, (1, 1), (0, 0))),
        )

    def test_behind_one_that_stood_and_one_that_went(self):
        self.check(
            *EVEN_TO_STAND,
            (push(0), [1]),
            (KEEPER, [1, 1, 2, 4] + NONE_UNDER_WAY),
            (work(1), log(1, 2, 0) + [GRANTED]),
            (KEEPER, [1, 1, 2, 4] + under_way(2, IS_OPEN, (1, 0), (0, 0))),
            (work(1), data(1, 2, 0, 3, 6) + [GRANTED]),
            (work(1), end(1, 2, 3, 6) + [GRANTED]),
            (KEEPER, [1, 1, 2, 4] + under_way(2, TO_STAND, (1, 0), (1, 0))),
            (push(0), [1]),
            (KEEPER, [1, 2, 3, 6] + NONE_UNDER_WAY),
            (put(3), [4]),
            (work(1), log(1, 3, 1) + [GRANTED]),
            (EXPIRE, [2]),
            (KEEPER, [2, 2, 3, 6] + under_way(3, TO_GO, (0, 1), (0, 1))),
            (push(1), [2]),
            (KEEPER, [2, 3, 3, 6] + NONE_UNDER_WAY),
            (work(1), data(1, 3, 1, 1, 9) + [SHUT_OUT]),
            (KEEPER, [2, 3, 3, 6] + NONE_UNDER_WAY),
            (work(1), BEGIN + [GRANTED]),
            (KEEPER, [3, 0, 3, 6] + NONE_UNDER_WAY),
        )

    def test_a_begin_that_waits(self):
        for line, behind in (
            (EVEN_OPEN, [2, 0, 0, 0] + under_way(1, TO_GO, (1, 0), (1, 0))),
            (EVEN_TO_STAND, [1, 0, 0, 0] + under_way(1, TO_STAND, (1, 0), (1, 0))),
            (EVEN_TO_GO, [2, 0, 0, 0] + under_way(1, TO_GO, (1, 0), (1, 0))),
        ):
            self.check(*line, (start(2), [0]), (work(2), BEGIN + [WAIT]), (KEEPER, behind))


class NothingIsChangedTest(LineCase):
    def test_what_tells_changes_nothing(self):
        tells = [read(0), read(0, 1), read(1, LARGEST), read(2), raw(0), raw(1), raw(2)]
        tells += [worker(0), worker(1), worker(2), worker(3), worker(4), KEEPER]
        for line in (MIXED, BOTH_OPEN, BOTH_TO_STAND, BOTH_TO_GO, []):
            calls = [call for call, _ in line]
            once = self.told(calls + tells)
            twice = self.told(calls + tells + tells)
            self.assertEqual(twice, once + once[len(calls):])

    def test_told_between_all_calls_the_others_are_as_without(self):
        tells = [read(0), raw(1), worker(1), KEEPER]
        for line in (BOTH_TO_STAND + [(push(0), [1]), (push(1), [1])], BOTH_TO_GO + [(push(1), [2]), (push(0), [2])]):
            calls = []
            for call, _ in line:
                calls += [call] + tells
            self.assertEqual(self.told(calls)[::len(tells) + 1], [answer for _, answer in line])


if __name__ == "__main__":
    unittest.main()
