"""Requests in the states that push and expire open up, most of them out of the air, where nobody hears the answer."""

import unittest

from tests.lines import (
    AIR, AT_FIRST, BEGIN, EXPIRE, GOES, GRANTED, IS_OPEN, KEEPER, LARGEST, NONE_UNDER_WAY, SENT, SHUT_OUT, STANDS,
    TO_GO, TO_STAND, UNHEARD, WAIT, WITHOUT_EPOCH, LineCase,
    arrive, begin, crash, data, end, log, push, put, raw, read, records, seen, start, under_way, work, worker, wrote,
)
from tests.states import BOTH_OPEN, BOTH_TO_GO, BOTH_TO_STAND, EVEN_OPEN, EVEN_TO_GO, EVEN_TO_STAND

# Transaction 1 has log 1 alone and stands, with the place 1 and the sum 1; each of its requests is in the air once
# more: 1 the begin, 2 the log, 3 the data, 4 the end. What comes next belongs in log 0 (the sums 2 and 4).
LATE_STOOD = [
    (begin(1), [0]),
    (put(1), [1]),
    (put(1), [2]),
    (put(2), [3]),
    (work(1, SENT), BEGIN),
    (work(1), BEGIN + [GRANTED]),
    (work(1, SENT), log(1, 1, 1)),
    (work(1), log(1, 1, 1) + [GRANTED]),
    (work(1, SENT), data(1, 1, 1, 1, 1)),
    (work(1), data(1, 1, 1, 1, 1) + [GRANTED]),
    (work(1, SENT), end(1, 1, 1, 1)),
    (work(1), end(1, 1, 1, 1) + [GRANTED]),
    (push(1), [1]),
]
SECOND_OPEN = LATE_STOOD + [
    (work(1), log(1, 2, 0) + [GRANTED]),
    (work(1), data(1, 2, 0, 1, 2) + [GRANTED]),
]
SECOND_TO_STAND = SECOND_OPEN + [(work(1), end(1, 2, 2, 2) + [GRANTED])]
SECOND_TO_GO = SECOND_OPEN + [(EXPIRE, [2])]

NONE_TOLD = [1, 1, 1, 1] + NONE_UNDER_WAY
OPEN_TOLD = [1, 1, 1, 1] + under_way(2, IS_OPEN, (1, 0), (0, 0))
TO_STAND_TOLD = [1, 1, 1, 1] + under_way(2, TO_STAND, (1, 0), (1, 0))
TO_GO_TOLD = [2, 1, 1, 1] + under_way(2, TO_GO, (1, 0), (1, 0))

STATES = (
    (LATE_STOOD, NONE_TOLD, GRANTED),
    (SECOND_OPEN, OPEN_TOLD, GRANTED),
    (SECOND_TO_STAND, TO_STAND_TOLD, GRANTED),
    (SECOND_TO_GO, TO_GO_TOLD, SHUT_OUT),
    (SECOND_TO_GO + [(push(0), [2])], [2, 2, 1, 1] + NONE_UNDER_WAY, SHUT_OUT),
)


class LateLogTest(LineCase):
    def test_at_most_the_last_one_ended_or_below_the_one_under_way(self):
        for line, told, answer in STATES:
            self.check(*line, (KEEPER, told), (arrive(2), log(1, 1, 1) + [answer]), (KEEPER, told))

    def test_the_second_ended_and_the_first_one_asks(self):
        self.check(
            *SECOND_TO_STAND,
            (push(0), [1]),
            (KEEPER, [1, 2, 2, 2] + NONE_UNDER_WAY),
            (arrive(2), log(1, 1, 1) + [GRANTED]),
            (KEEPER, [1, 2, 2, 2] + NONE_UNDER_WAY),
        )

    def test_of_one_that_is_to_stand(self):
        line = BOTH_OPEN[:4] + [(work(1, SENT), log(1, 1, 0))] * 2 + BOTH_OPEN[4:]
        line += [(work(1), end(1, 1, 2, 3) + [GRANTED])]
        told = [1, 0, 0, 0] + under_way(1, TO_STAND, (1, 1), (0, 1))
        self.check(
            *line,
            (push(0), [1]),
            (KEEPER, told),
            # Its log 0 must not lack a marker anew.
            (arrive(1), log(1, 1, 0) + [GRANTED]),
            (KEEPER, told),
            (push(0), [-4]),
            (push(1), [1]),
            (KEEPER, [1, 1, 2, 3] + NONE_UNDER_WAY),
            (arrive(1), log(1, 1, 0) + [GRANTED]),
            (KEEPER, [1, 1, 2, 3] + NONE_UNDER_WAY),
        )

    def test_of_one_that_is_to_go(self):
        line = BOTH_OPEN[:4] + [(work(1, SENT), log(1, 1, 0))] * 3 + BOTH_OPEN[4:]
        told = [2, 0, 0, 0] + under_way(1, TO_GO, (1, 1), (0, 1))
        self.check(
            *line,
            (EXPIRE, [2]),
            (arrive(1), log(1, 1, 0) + [SHUT_OUT]),
            (push(0), [2]),
            (arrive(1), log(1, 1, 0) + [SHUT_OUT]),
            (KEEPER, told),
            (push(1), [2]),
            (arrive(1), log(1, 1, 0) + [SHUT_OUT]),
            (KEEPER, [2, 1, 0, 0] + NONE_UNDER_WAY),
        )

    def test_that_waited_opens_when_the_one_before_is_over(self):
        self.check(
            *EVEN_TO_STAND,
            (work(1, SENT), log(1, 2, 0)),
            (work(1, SENT), log(1, 2, 0)),
            (arrive(1), log(1, 2, 0) + [WAIT]),
            (push(0), [1]),
            (arrive(1), log(1, 2, 0) + [GRANTED]),
            (KEEPER, [1, 1, 2, 4] + under_way(2, IS_OPEN, (1, 0), (0, 0))),
            (worker(1), [1, 1, 2, 4, 2, 0, 0]),
            (work(1), log(1, 2, 0) + [GRANTED]),
            (work(1), data(1, 2, 0, 3, 6) + [GRANTED]),
        )

    def test_it_opens_one_that_nobody_is_at_any_more_and_that_can_expire(self):
        self.check(
            *EVEN_TO_STAND,
            (work(1, SENT), log(1, 2, 0)),
            (push(0), [1]),
            (crash(1), [0]),
            (arrive(1), log(1, 2, 0) + [GRANTED]),
            (KEEPER, [1, 1, 2, 4] + under_way(2, IS_OPEN, (1, 0), (0, 0))),
            (EXPIRE, [2]),
            (push(0), [2]),
            (raw(0), records(wrote(1, 2), wrote(1, 4), STANDS, GOES)),
            (start(2), [0]),
            (work(2), BEGIN + [GRANTED]),
            (worker(2), [1, 3, 2, 4, 1, 0, 0]),
        )


class LateDataTest(LineCase):
    def test_that_came_before_is_not_written_again(self):
        for line, told, _ in STATES:
            self.check(
                *line,
                (arrive(3), data(1, 1, 1, 1, 1) + [GRANTED]),
                (raw(1), records(wrote(1, 1), STANDS)),
                (KEEPER, told),
            )

    def test_of_an_epoch_below_that_of_the_data_there(self):
        self.check(
            *EVEN_OPEN[:5],
            (work(1, SENT), data(1, 1, 0, 1, 2)),
            (work(1, SENT), data(1, 1, 0, 1, 2)),
            *EVEN_TO_STAND[5:],
            (push(0), [1]),
            (start(2), [0]),
            (work(2), BEGIN + [GRANTED]),
            (work(2), log(2, 1, 0) + [GRANTED]),
            # The keeper's epoch is 2 already, the log's is 1 still.
            (arrive(1), data(1, 1, 0, 1, 2) + [GRANTED]),
            (work(2), data(2, 1, 0, 1, 6) + [GRANTED]),
            (arrive(1), data(1, 1, 0, 1, 2) + [SHUT_OUT]),
            (raw(0), records(wrote(1, 2), wrote(1, 4), STANDS, wrote(2, 6))),
            (work(2), end(2, 1, 3, 6) + [GRANTED]),
            (push(0), [1]),
            (read(0), seen(2, 4, 6)),
        )

    def test_of_an_epoch_below_that_of_the_marker_there(self):
        self.check(
            *EVEN_OPEN[:5],
            (work(1, SENT), data(1, 1, 0, 1, 2)),
            (EXPIRE, [2]),
            (push(0), [2]),
            (arrive(1), data(1, 1, 0, 1, 2) + [SHUT_OUT]),
            (raw(0), records(GOES)),
            (worker(1), [1, 1, 0, 0, 1, 0, 0]),
            (work(1), data(1, 1, 0, 1, 2) + [SHUT_OUT]),
            (worker(1), WITHOUT_EPOCH),
        )

    def test_ahead_of_the_marker_it_goes_too(self):
        self.check(
            *EVEN_OPEN[:5],
            (work(1, SENT), data(1, 1, 0, 1, 2)),
            (EXPIRE, [2]),
            (crash(1), [0]),
            (arrive(1), data(1, 1, 0, 1, 2) + [GRANTED]),
            (push(0), [2]),
            (raw(0), records(wrote(1, 2), GOES)),
            (read(0), [0]),
        )

    def test_of_an_epoch_above_the_log_s(self):
        self.check(
            *EVEN_TO_STAND,
            (push(0), [1]),
            (start(2), [0]),
            (start(3), [0]),
            (work(2), BEGIN + [GRANTED]),
            (work(3), BEGIN + [GRANTED]),
            (work(3), log(3, 1, 0) + [GRANTED]),
            (work(3, SENT), data(3, 1, 0, 1, 6)),
            (work(3, SENT), data(3, 1, 0, 1, 6)),
            (arrive(1), data(3, 1, 0, 1, 6) + [GRANTED]),
            (arrive(1), data(3, 1, 0, 1, 6) + [GRANTED]),
            (work(3), data(3, 1, 0, 1, 6) + [GRANTED]),
            (raw(0), records(wrote(1, 2), wrote(1, 4), STANDS, wrote(3, 6))),
            (worker(3), [1, 3, 3, 6, 1, 1, 0]),
        )

    def test_each_log_knows_an_epoch_of_its_own(self):
        self.check(
            (begin(5), [0]),
            *BOTH_OPEN[:7],
            (work(1, SENT), data(1, 1, 1, 1, 3)),
            (work(1, SENT), data(1, 1, 1, 1, 3)),
            (EXPIRE, [2]),
            (push(0), [2]),
            (arrive(1), data(1, 1, 1, 1, 3) + [GRANTED]),
            (push(1), [2]),
            (arrive(1), data(1, 1, 1, 1, 3) + [SHUT_OUT]),
            (raw(0), records(wrote(1, 2), GOES)),
            (raw(1), records(wrote(1, 3), GOES)),
        )


class LateEndTest(LineCase):
    def test_of_one_that_is_over(self):
        for line, told, answer in STATES:
            self.check(*line, (arrive(4), end(1, 1, 1, 1) + [answer]), (KEEPER, told))

    def test_its_worker_asks_once_more_and_goes_on(self):
        self.check(
            *EVEN_OPEN,
            (work(1, UNHEARD), end(1, 1, 2, 4)),
            (push(0), [1]),
            (KEEPER, [1, 1, 2, 4] + NONE_UNDER_WAY),
            (worker(1), [1, 1, 2, 4, 1, 2, 1]),
            (work(1), end(1, 1, 2, 4) + [GRANTED]),
            (KEEPER, [1, 1, 2, 4] + NONE_UNDER_WAY),
            (worker(1), [1, 1, 2, 4, 2, 0, 0]),
            (work(1), log(1, 2, 0) + [GRANTED]),
        )

    def test_its_worker_asks_once_more_when_it_is_replaced(self):
        self.check(
            *EVEN_OPEN,
            (work(1, UNHEARD), end(1, 1, 2, 4)),
            (push(0), [1]),
            (start(2), [0]),
            (work(2), BEGIN + [GRANTED]),
            (work(1), end(1, 1, 2, 4) + [SHUT_OUT]),
            (worker(1), WITHOUT_EPOCH),
            (KEEPER, [2, 0, 2, 4] + NONE_UNDER_WAY),
            (read(0), seen(2, 4)),
        )

    def test_behind_an_expire_it_does_not_stand(self):
        line = EVEN_OPEN + [(work(1, SENT), end(1, 1, 2, 4))] * 2
        self.check(
            *line,
            (EXPIRE, [2]),
            (arrive(1), end(1, 1, 2, 4) + [SHUT_OUT]),
            (KEEPER, [2, 0, 0, 0] + under_way(1, TO_GO, (1, 0), (1, 0))),
            (push(0), [2]),
            (arrive(1), end(1, 1, 2, 4) + [SHUT_OUT]),
            (KEEPER, [2, 1, 0, 0] + NONE_UNDER_WAY),
            (read(0), [0]),
        )

    def test_of_an_epoch_before_while_another_one_has_the_same_number(self):
        self.check(
            *EVEN_OPEN,
            (work(1, SENT), end(1, 1, 2, 4)),
            (EXPIRE, [2]),
            (push(0), [2]),
            (start(2), [0]),
            (work(2), BEGIN + [GRANTED]),
            (work(2), log(3, 1, 0) + [GRANTED]),
            (arrive(1), end(1, 1, 2, 4) + [SHUT_OUT]),
            (KEEPER, [3, 0, 0, 0] + under_way(1, IS_OPEN, (1, 0), (0, 0))),
            (work(1), end(1, 1, 2, 4) + [SHUT_OUT]),
            (KEEPER, [3, 0, 0, 0] + under_way(1, IS_OPEN, (1, 0), (0, 0))),
        )


class LateBeginTest(LineCase):
    def test_in_each_state(self):
        for line, behind, answer in (
            (LATE_STOOD, [2, 0, 1, 1] + NONE_UNDER_WAY, GRANTED),
            (SECOND_OPEN, TO_GO_TOLD, WAIT),
            (SECOND_TO_STAND, TO_STAND_TOLD, WAIT),
            (SECOND_TO_GO, TO_GO_TOLD, WAIT),
            (SECOND_TO_GO + [(push(0), [2])], [3, 0, 1, 1] + NONE_UNDER_WAY, GRANTED),
        ):
            self.check(*line, (arrive(1), BEGIN + [answer]), (KEEPER, behind))

    def test_granted_it_shuts_out_who_was_at_work(self):
        self.check(
            *LATE_STOOD,
            (arrive(1), BEGIN + [GRANTED]),
            (work(1), log(1, 2, 0) + [SHUT_OUT]),
            (worker(1), WITHOUT_EPOCH),
            (work(1), BEGIN + [GRANTED]),
            (worker(1), [1, 3, 1, 1, 1, 0, 0]),
        )

    def test_a_log_with_a_marker_lacking_still_lets_it_wait(self):
        for line, state in ((BOTH_TO_STAND, 1), (BOTH_TO_GO, 2)):
            self.check(
                *line,
                (start(2), [0]),
                (work(2, SENT), BEGIN),
                (work(2, SENT), BEGIN),
                (push(1), [state]),
                (arrive(1), BEGIN + [WAIT]),
                (push(0), [state]),
                (arrive(1), BEGIN + [GRANTED]),
            )


class OneEpochTest(LineCase):
    def test_three_transactions_with_the_next_numbers_going_on(self):
        self.check(
            (begin(2), [0]),
            *[(put(1), [place]) for place in (1, 2, 3, 4, 5, 6)],
            (work(1), BEGIN + [GRANTED]),
            (work(1), log(1, 1, 1) + [GRANTED]),
            (work(1), data(1, 1, 1, 1, 1) + [GRANTED]),
            (work(1), log(1, 1, 0) + [GRANTED]),
            (work(1), data(1, 1, 0, 1, 2) + [GRANTED]),
            (work(1), end(1, 1, 2, 2) + [GRANTED]),
            (push(0), [1]),
            (work(1), log(1, 2, 1) + [WAIT]),
            (push(1), [1]),
            (KEEPER, [1, 1, 2, 2] + NONE_UNDER_WAY),
            (work(1), log(1, 2, 1) + [GRANTED]),
            (work(1), data(1, 2, 1, 2, 3) + [GRANTED]),
            (work(1), log(1, 2, 0) + [GRANTED]),
            (work(1), data(1, 2, 0, 2, 4) + [GRANTED]),
            (work(1), end(1, 2, 4, 4) + [GRANTED]),
            (push(1), [1]),
            (push(0), [1]),
            (KEEPER, [1, 2, 4, 4] + NONE_UNDER_WAY),
            (work(1), log(1, 3, 1) + [GRANTED]),
            (work(1), data(1, 3, 1, 3, 5) + [GRANTED]),
            (work(1), log(1, 3, 0) + [GRANTED]),
            (work(1), data(1, 3, 0, 3, 6) + [GRANTED]),
            (KEEPER, [1, 2, 4, 4] + under_way(3, IS_OPEN, (1, 1), (0, 0))),
            (work(1), end(1, 3, 6, 6) + [GRANTED]),
            (push(0), [1]),
            (push(1), [1]),
            (KEEPER, [1, 3, 6, 6] + NONE_UNDER_WAY),
            (read(0), seen(2, 4, 6)),
            (read(1), seen(1, 3, 5)),
            (work(1), [0]),
        )

    def test_a_log_that_the_second_one_does_not_ask_for_gets_no_marker(self):
        self.check(
            *SECOND_TO_STAND,
            (push(1), [-4]),
            (push(0), [1]),
            (raw(0), records(wrote(1, 2), STANDS)),
            (raw(1), records(wrote(1, 1), STANDS)),
            (work(1), log(1, 3, 0) + [GRANTED]),
            (work(1), data(1, 3, 0, 2, 4) + [GRANTED]),
            (work(1), end(1, 3, 3, 4) + [GRANTED]),
            (push(0), [1]),
            (KEEPER, [1, 3, 3, 4] + NONE_UNDER_WAY),
            (raw(0), records(wrote(1, 2), STANDS, wrote(1, 4), STANDS)),
        )

    def test_a_lost_answer_in_the_second_one(self):
        self.check(
            *LATE_STOOD,
            (work(1, UNHEARD), log(1, 2, 0)),
            (work(1), log(1, 2, 0) + [GRANTED]),
            (work(1, UNHEARD), data(1, 2, 0, 1, 2)),
            (work(1), data(1, 2, 0, 1, 2) + [GRANTED]),
            (work(1, UNHEARD), end(1, 2, 2, 2)),
            (work(1), end(1, 2, 2, 2) + [GRANTED]),
            (push(0), [1]),
            (read(0), seen(2)),
            (read(1), seen(1)),
        )

    def test_the_next_epoch_counts_transactions_and_data_from_1(self):
        self.check(
            *SECOND_TO_STAND,
            (push(0), [1]),
            (start(2), [0]),
            (work(2), BEGIN + [GRANTED]),
            (KEEPER, [2, 0, 2, 2] + NONE_UNDER_WAY),
            (work(2), log(2, 1, 0) + [GRANTED]),
            (KEEPER, [2, 0, 2, 2] + under_way(1, IS_OPEN, (1, 0), (0, 0))),
            (work(2), data(2, 1, 0, 1, 4) + [GRANTED]),
            (work(2), end(2, 1, 3, 4) + [GRANTED]),
            (push(0), [1]),
            (KEEPER, [2, 1, 3, 4] + NONE_UNDER_WAY),
            (read(0), seen(2, 4)),
        )


class BeginAgainTest(LineCase):
    def test_all_is_as_at_first(self):
        for line in (
            EVEN_OPEN, EVEN_TO_GO, BOTH_TO_STAND, BOTH_TO_GO, LATE_STOOD, SECOND_OPEN, SECOND_TO_STAND, SECOND_TO_GO,
            BOTH_TO_STAND + [(push(0), [1])], BOTH_TO_GO + [(push(1), [2])],
        ):
            for batch in (1, 5):
                self.check(
                    *line,
                    (start(2), [0]),
                    (start(3), [0]),
                    (crash(1), [0]),
                    (work(3, SENT), BEGIN),
                    (begin(batch), [0]),
                    *AT_FIRST,
                    *[(push(j), [-4]) for j in (0, 1)],
                    (EXPIRE, [-4]),
                    (put(2), [1]),
                )

    def test_what_follows_goes_as_in_a_new_line(self):
        self.check(*SECOND_TO_GO, (begin(2), [0]), *BOTH_TO_STAND, (push(0), [1]), (push(1), [1]), (read(0), seen(2)))
        self.check(*BOTH_TO_STAND, (push(0), [1]), (begin(1), [0]), *SECOND_TO_GO, (KEEPER, TO_GO_TOLD))

    def test_refused_it_changes_nothing(self):
        tells = [AIR, raw(0), raw(1), read(0), read(1), worker(1), worker(2), worker(3), KEEPER, put(9)]
        for batch in (0, 6, LARGEST):
            for line, told, _ in STATES:
                calls = [call for call, _ in line]
                plain = self.told(calls + tells)
                refused = self.told(calls + [begin(batch)] + tells)
                self.assertEqual(refused, plain[:len(calls)] + [[-1]] + plain[len(calls):])
                self.assertEqual(plain[-2], told)


if __name__ == "__main__":
    unittest.main()
