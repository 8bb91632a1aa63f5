"""What workers ask, how it is served, and what they do with the answers."""

import unittest

from tests.lines import (
    AIR, BEGIN, GRANTED, LOST, SENT, SHUT_OUT, UNHEARD, WAIT, LineCase,
    arrive, begin, crash, data, end, log, put, start, work,
)
from tests.states import EVEN_OPEN

# Worker 1 has epoch 1 and log 0 in transaction 1, which is open; the input is 2, 2, 2 and the batch 2.
OPENED = EVEN_OPEN[:5]

# Behind that it was granted the two data of its batch.
FILLED = EVEN_OPEN


class AskTest(LineCase):
    def test_nothing_to_ask(self):
        for how in (0, UNHEARD, LOST, SENT):
            self.check(
                (work(1), BEGIN + [GRANTED]),
                (work(1, how), [0]),
                (AIR, [0]),
                (put(1), [1]),
                (work(1), log(1, 1, 1) + [GRANTED]),
            )

    def test_the_input_ends_before_the_batch_is_reached(self):
        self.check(
            (begin(5), [0]),
            (put(3), [1]),
            (put(4), [2]),
            (work(1), BEGIN + [GRANTED]),
            (work(1), log(1, 1, 1) + [GRANTED]),
            (work(1), data(1, 1, 1, 1, 3) + [GRANTED]),
            (work(1), data(1, 1, 1, 2, 7) + [GRANTED]),
            (work(1), end(1, 1, 2, 7) + [GRANTED]),
            (work(1), [0]),
        )

    def test_a_log_without_data_is_no_reason_to_end(self):
        self.check(
            (put(2), [1]),
            (work(1), BEGIN + [GRANTED]),
            (work(1), log(1, 1, 0) + [GRANTED]),
            (work(1, LOST), data(1, 1, 0, 1, 2)),
            (work(1), data(1, 1, 0, 1, 2) + [GRANTED]),
            (work(1), end(1, 1, 1, 2) + [GRANTED]),
        )

    def test_behind_an_end_logs_are_asked_for_anew(self):
        self.check(*FILLED, (work(1), end(1, 1, 2, 4) + [GRANTED]), *[(work(1), log(1, 2, 0) + [WAIT])] * 2)

    def test_behind_an_end_nothing_is_asked_until_input_comes(self):
        self.check(
            (put(1), [1]),
            (work(1), BEGIN + [GRANTED]),
            (work(1), log(1, 1, 1) + [GRANTED]),
            (work(1), data(1, 1, 1, 1, 1) + [GRANTED]),
            (work(1), end(1, 1, 1, 1) + [GRANTED]),
            (work(1), [0]),
            (put(1), [2]),
            (work(1), log(1, 2, 0) + [WAIT]),
        )


class LostTest(LineCase):
    def test_a_request_that_is_lost_is_asked_again_and_was_not_served(self):
        self.check(
            (put(2), [1]),
            (work(1, LOST), BEGIN),
            (work(1), BEGIN + [GRANTED]),
            (work(1, LOST), log(1, 1, 0)),
            (start(2), [0]),
            # No transaction is open yet, so this one is granted.
            (work(2), BEGIN + [GRANTED]),
            (work(1), log(1, 1, 0) + [SHUT_OUT]),
            (work(2, LOST), log(2, 1, 0)),
            (work(2), log(2, 1, 0) + [GRANTED]),
            (work(2, LOST), data(2, 1, 0, 1, 2)),
            (work(2), data(2, 1, 0, 1, 2) + [GRANTED]),
            (work(2, LOST), end(2, 1, 1, 2)),
            (work(2), end(2, 1, 1, 2) + [GRANTED]),
            (work(2), [0]),
        )

    def test_an_answer_that_is_lost(self):
        self.check(
            (put(2), [1]),
            (put(2), [2]),
            (work(1, UNHEARD), BEGIN),
            (work(1), BEGIN + [GRANTED]),
            (work(1, UNHEARD), log(2, 1, 0)),
            (work(1), log(2, 1, 0) + [GRANTED]),
            (work(1, UNHEARD), data(2, 1, 0, 1, 2)),
            (work(1, UNHEARD), data(2, 1, 0, 1, 2)),
            (work(1), data(2, 1, 0, 1, 2) + [GRANTED]),
            (work(1), data(2, 1, 0, 2, 4) + [GRANTED]),
            (work(1, UNHEARD), end(2, 1, 2, 4)),
            (work(1, UNHEARD), end(2, 1, 2, 4)),
            (work(1), end(2, 1, 2, 4) + [GRANTED]),
        )

    def test_a_log_whose_answer_is_lost_was_served(self):
        self.check(
            *OPENED[:4],
            (work(1, UNHEARD), log(1, 1, 0)),
            (start(2), [0]),
            (work(2), BEGIN + [WAIT]),
            (work(1), log(1, 1, 0) + [SHUT_OUT]),
        )

    def test_an_end_whose_answer_is_lost_was_served(self):
        self.check(
            *FILLED,
            (work(1, UNHEARD), end(1, 1, 2, 4)),
            (start(2), [0]),
            # It is to stand and not undone: else worker 1 would be shut out.
            (work(2), BEGIN + [WAIT]),
            (work(1), end(1, 1, 2, 4) + [GRANTED]),
        )

    def test_an_end_that_is_lost_was_not_served(self):
        self.check(
            *FILLED,
            (work(1, LOST), end(1, 1, 2, 4)),
            (start(2), [0]),
            (work(2), BEGIN + [WAIT]),
            (work(1), end(1, 1, 2, 4) + [SHUT_OUT]),
        )

    def test_who_asked_to_end_is_ending_though_more_input_comes(self):
        for how in (UNHEARD, LOST, SENT):
            self.check(
                (put(2), [1]),
                (work(1), BEGIN + [GRANTED]),
                (work(1), log(1, 1, 0) + [GRANTED]),
                (work(1), data(1, 1, 0, 1, 2) + [GRANTED]),
                (work(1, how), end(1, 1, 1, 2)),
                (put(2), [2]),
                (work(1, how), end(1, 1, 1, 2)),
                (work(1), end(1, 1, 1, 2) + [GRANTED]),
                (work(1), log(1, 2, 0) + [WAIT]),
            )

    def test_who_has_not_asked_to_end_yet_takes_more_input(self):
        self.check(
            (put(2), [1]),
            (work(1), BEGIN + [GRANTED]),
            (work(1), log(1, 1, 0) + [GRANTED]),
            (work(1), data(1, 1, 0, 1, 2) + [GRANTED]),
            (put(1), [2]),
            (work(1), log(1, 1, 1) + [GRANTED]),
            (work(1), data(1, 1, 1, 1, 3) + [GRANTED]),
            (work(1), end(1, 1, 2, 3) + [GRANTED]),
        )


class BeginRequestTest(LineCase):
    def test_without_a_transaction_the_epoch_goes_up(self):
        self.check(
            (put(1), [1]),
            (start(2), [0]),
            (start(3), [0]),
            (work(1), BEGIN + [GRANTED]),
            (work(2), BEGIN + [GRANTED]),
            (work(3), BEGIN + [GRANTED]),
            (work(1), log(1, 1, 1) + [SHUT_OUT]),
            (work(2), log(2, 1, 1) + [SHUT_OUT]),
            (work(3), log(3, 1, 1) + [GRANTED]),
        )

    def test_an_open_transaction_is_undone(self):
        self.check(
            *OPENED,
            (work(1), data(1, 1, 0, 1, 2) + [GRANTED]),
            (start(2), [0]),
            (work(2), BEGIN + [WAIT]),
            # The log alone looks at data, and it has not heard of the new epoch.
            (work(1), data(1, 1, 0, 2, 4) + [GRANTED]),
            (work(1), end(1, 1, 2, 4) + [SHUT_OUT]),
            (work(1), BEGIN + [WAIT]),
            (work(2), BEGIN + [WAIT]),
        )

    def test_one_that_is_to_go_lets_begin_wait(self):
        self.check(
            *OPENED,
            (start(2), [0]),
            (start(3), [0]),
            (work(2), BEGIN + [WAIT]),
            (work(2), BEGIN + [WAIT]),
            (work(3), BEGIN + [WAIT]),
            (crash(1), [0]),
            (start(1), [0]),
            (work(1), BEGIN + [WAIT]),
        )

    def test_one_that_is_to_stand_lets_begin_wait_and_is_not_undone(self):
        self.check(
            *FILLED,
            (work(1), end(1, 1, 2, 4) + [GRANTED]),
            (start(2), [0]),
            (work(2), BEGIN + [WAIT]),
            (work(2), BEGIN + [WAIT]),
            (work(1), log(1, 2, 0) + [WAIT]),
        )

    def test_a_worker_that_waits_for_begin_still_has_no_epoch(self):
        self.check(*OPENED, (start(3), [0]), (work(3), BEGIN + [WAIT]), (work(3, LOST), BEGIN))

    def test_its_own_begin_that_comes_late_undoes_a_transaction(self):
        self.check(
            *OPENED[:3],
            (work(1, SENT), BEGIN),
            *OPENED[3:],
            (arrive(1), BEGIN + [WAIT]),
            (work(1), data(1, 1, 0, 1, 2) + [GRANTED]),
            (work(1), data(1, 1, 0, 2, 4) + [GRANTED]),
            (work(1), end(1, 1, 2, 4) + [SHUT_OUT]),
            (work(1), BEGIN + [WAIT]),
        )

    def test_a_begin_that_comes_late_shuts_out_before_a_transaction(self):
        self.check(
            (put(2), [1]),
            (work(1, SENT), BEGIN),
            (work(1), BEGIN + [GRANTED]),
            (arrive(1), BEGIN + [GRANTED]),
            (work(1), log(1, 1, 0) + [SHUT_OUT]),
            (work(1), BEGIN + [GRANTED]),
            (work(1), log(3, 1, 0) + [GRANTED]),
        )


class LogRequestTest(LineCase):
    def test_from_an_epoch_that_is_over(self):
        self.check(
            *OPENED,
            (work(1), data(1, 1, 0, 1, 2) + [GRANTED]),
            (work(1, SENT), data(1, 1, 0, 2, 4)),
            (start(2), [0]),
            (work(2), BEGIN + [WAIT]),
            (arrive(1), data(1, 1, 0, 2, 4) + [GRANTED]),
            (work(1), data(1, 1, 0, 2, 4) + [GRANTED]),
            (work(1), end(1, 1, 2, 4) + [SHUT_OUT]),
        )
        self.check(
            (put(2), [1]),
            (put(1), [2]),
            (work(1), BEGIN + [GRANTED]),
            (work(1), log(1, 1, 0) + [GRANTED]),
            (work(1), data(1, 1, 0, 1, 2) + [GRANTED]),
            (start(2), [0]),
            (work(2), BEGIN + [WAIT]),
            (work(1), log(1, 1, 1) + [SHUT_OUT]),
            (work(1), BEGIN + [WAIT]),
        )

    def test_with_the_number_of_the_one_that_is_open(self):
        self.check(
            (put(2), [1]),
            (put(1), [2]),
            (work(1), BEGIN + [GRANTED]),
            (work(1, SENT), log(1, 1, 0)),
            (work(1), log(1, 1, 0) + [GRANTED]),
            (arrive(1), log(1, 1, 0) + [GRANTED]),
            (work(1), data(1, 1, 0, 1, 2) + [GRANTED]),
            (work(1, SENT), log(1, 1, 1)),
            (arrive(1), log(1, 1, 1) + [GRANTED]),
            (work(1), log(1, 1, 1) + [GRANTED]),
            (work(1), data(1, 1, 1, 1, 3) + [GRANTED]),
            (work(1), end(1, 1, 2, 3) + [GRANTED]),
        )

    def test_with_the_number_of_the_one_that_is_open_no_longer(self):
        self.check(
            *OPENED[:4],
            (work(1, SENT), log(1, 1, 0)),
            *FILLED[4:],
            (work(1), end(1, 1, 2, 4) + [GRANTED]),
            (arrive(1), log(1, 1, 0) + [GRANTED]),
            (work(1), log(1, 2, 0) + [WAIT]),
        )

    def test_with_a_number_above(self):
        self.check(
            *FILLED,
            (work(1), end(1, 1, 2, 4) + [GRANTED]),
            (work(1, SENT), log(1, 2, 0)),
            (arrive(1), log(1, 2, 0) + [WAIT]),
            (work(1, UNHEARD), log(1, 2, 0)),
            (work(1), log(1, 2, 0) + [WAIT]),
        )


class DataRequestTest(LineCase):
    def test_with_a_number_that_came_before_and_with_the_next_one(self):
        self.check(
            *OPENED,
            (work(1, SENT), data(1, 1, 0, 1, 2)),
            (work(1, SENT), data(1, 1, 0, 1, 2)),
            (work(1), data(1, 1, 0, 1, 2) + [GRANTED]),
            (work(1, SENT), data(1, 1, 0, 2, 4)),
            (arrive(1), data(1, 1, 0, 1, 2) + [GRANTED]),
            (arrive(2), data(1, 1, 0, 2, 4) + [GRANTED]),
            (arrive(1), data(1, 1, 0, 1, 2) + [GRANTED]),
            (work(1), data(1, 1, 0, 2, 4) + [GRANTED]),
            (work(1), end(1, 1, 2, 4) + [GRANTED]),
        )

    def test_the_numbers_are_counted_for_each_log(self):
        self.check(
            (begin(4), [0]),
            (put(1), [1]),
            (put(1), [2]),
            (put(1), [3]),
            (put(1), [4]),
            (work(1), BEGIN + [GRANTED]),
            (work(1), log(1, 1, 1) + [GRANTED]),
            (work(1), data(1, 1, 1, 1, 1) + [GRANTED]),
            (work(1), log(1, 1, 0) + [GRANTED]),
            (work(1), data(1, 1, 0, 1, 2) + [GRANTED]),
            (work(1), data(1, 1, 1, 2, 3) + [GRANTED]),
            (work(1), data(1, 1, 0, 2, 4) + [GRANTED]),
            (work(1), end(1, 1, 4, 4) + [GRANTED]),
        )


class EndRequestTest(LineCase):
    def test_from_an_epoch_that_is_over(self):
        self.check(
            *FILLED,
            (work(1, SENT), end(1, 1, 2, 4)),
            (start(3), [0]),
            (work(3), BEGIN + [WAIT]),
            (arrive(1), end(1, 1, 2, 4) + [SHUT_OUT]),
            # Nobody heard it, so the worker asks once more.
            (work(1), end(1, 1, 2, 4) + [SHUT_OUT]),
            (work(1), BEGIN + [WAIT]),
        )

    def test_of_one_that_is_to_stand(self):
        self.check(
            *FILLED,
            (work(1, SENT), end(1, 1, 2, 4)),
            (work(1, SENT), end(1, 1, 2, 4)),
            (arrive(2), end(1, 1, 2, 4) + [GRANTED]),
            (work(1), end(1, 1, 2, 4) + [GRANTED]),
            (arrive(1), end(1, 1, 2, 4) + [GRANTED]),
            (start(2), [0]),
            (work(2), BEGIN + [WAIT]),
            (work(1), log(1, 2, 0) + [WAIT]),
        )

    def test_an_end_that_arrives_makes_it_stand(self):
        self.check(
            *FILLED,
            (work(1, SENT), end(1, 1, 2, 4)),
            (arrive(1), end(1, 1, 2, 4) + [GRANTED]),
            (start(2), [0]),
            (work(2), BEGIN + [WAIT]),
            (work(1), end(1, 1, 2, 4) + [GRANTED]),
        )


class AirTest(LineCase):
    def test_nothing_in_it(self):
        self.check((AIR, [0]), (arrive(0), [-5]), (arrive(1), [-5]), (arrive(2), [-5]), (AIR, [0]))

    def test_only_what_is_sent_so_is_in_it(self):
        self.check((work(1, LOST), BEGIN), (work(1, UNHEARD), BEGIN), (work(1), BEGIN + [GRANTED]), (AIR, [0]))

    def test_each_kind_the_oldest_first(self):
        four = [BEGIN, log(1, 1, 1), data(1, 1, 1, 1, 5), end(1, 1, 1, 5)]
        self.check(
            (put(5), [1]),
            (work(1, SENT), four[0]),
            (work(1), BEGIN + [GRANTED]),
            (work(1, SENT), four[1]),
            (work(1), four[1] + [GRANTED]),
            (work(1, SENT), four[2]),
            (work(1), four[2] + [GRANTED]),
            (work(1, SENT), four[3]),
            (AIR, [4] + four[0] + four[1] + four[2] + four[3]),
            (AIR, [4] + four[0] + four[1] + four[2] + four[3]),
            (arrive(0), [-5]),
            (arrive(5), [-5]),
            (arrive(2), four[1] + [GRANTED]),
            (AIR, [3] + four[0] + four[2] + four[3]),
            (arrive(4), [-5]),
            (arrive(3), four[3] + [GRANTED]),
            (AIR, [2] + four[0] + four[2]),
            (arrive(1), four[0] + [WAIT]),
            (AIR, [1] + four[2]),
            (arrive(1), four[2] + [GRANTED]),
            (AIR, [0]),
            (arrive(1), [-5]),
            # The end arrived ahead of the begin, so the transaction was not undone.
            (work(1), four[3] + [GRANTED]),
        )

    def test_the_order_of_arrival_counts(self):
        sent = FILLED[:3] + [(work(1, SENT), BEGIN)] + FILLED[3:] + [(work(1, SENT), end(1, 1, 2, 4))]
        self.check(
            *sent,
            (arrive(1), BEGIN + [WAIT]),
            (arrive(1), end(1, 1, 2, 4) + [SHUT_OUT]),
        )
        self.check(
            *sent,
            (arrive(2), end(1, 1, 2, 4) + [GRANTED]),
            (arrive(1), BEGIN + [WAIT]),
            (work(1), end(1, 1, 2, 4) + [GRANTED]),
        )

    def test_nobody_hears_the_answer(self):
        self.check(
            (put(2), [1]),
            (work(1, SENT), BEGIN),
            (arrive(1), BEGIN + [GRANTED]),
            (work(1), BEGIN + [GRANTED]),
            (work(1, SENT), log(2, 1, 0)),
            (arrive(1), log(2, 1, 0) + [GRANTED]),
            (work(1), log(2, 1, 0) + [GRANTED]),
            (work(1, SENT), data(2, 1, 0, 1, 2)),
            (arrive(1), data(2, 1, 0, 1, 2) + [GRANTED]),
            (work(1), data(2, 1, 0, 1, 2) + [GRANTED]),
            (work(1, SENT), end(2, 1, 1, 2)),
            (arrive(1), end(2, 1, 1, 2) + [GRANTED]),
            (work(1), end(2, 1, 1, 2) + [GRANTED]),
            (work(1), [0]),
        )

    def test_a_refused_arrive_changes_nothing(self):
        self.check(
            (work(1, SENT), BEGIN),
            (arrive(0), [-5]),
            (arrive(2), [-5]),
            (AIR, [1] + BEGIN),
            (put(1), [1]),
            (work(1), BEGIN + [GRANTED]),
            (work(1), log(1, 1, 1) + [GRANTED]),
        )


class ReplacedTest(LineCase):
    def test_two_workers_one_of_which_was_replaced(self):
        self.check(
            (put(1), [1]),
            (put(1), [2]),
            (work(1), BEGIN + [GRANTED]),
            (start(2), [0]),
            (work(2), BEGIN + [GRANTED]),
            (work(2), log(2, 1, 1) + [GRANTED]),
            (work(1), log(1, 1, 1) + [SHUT_OUT]),
            (work(2), data(2, 1, 1, 1, 1) + [GRANTED]),
            # Shut out it begins anew, and that undoes what worker 2 is about.
            (work(1), BEGIN + [WAIT]),
            (work(2), log(2, 1, 0) + [SHUT_OUT]),
        )

    def test_a_late_log_of_a_replaced_worker_opens_nothing(self):
        self.check(
            (put(1), [1]),
            (work(1), BEGIN + [GRANTED]),
            (work(1, SENT), log(1, 1, 1)),
            (crash(1), [0]),
            (start(2), [0]),
            (work(2), BEGIN + [GRANTED]),
            (arrive(1), log(1, 1, 1) + [SHUT_OUT]),
            (start(1), [0]),
            (work(1), BEGIN + [GRANTED]),
            (work(1), log(3, 1, 1) + [GRANTED]),
        )

    def test_three_workers(self):
        self.check(
            (put(4), [1]),
            (start(2), [0]),
            (start(3), [0]),
            (work(1), BEGIN + [GRANTED]),
            (work(2), BEGIN + [GRANTED]),
            (work(1, SENT), log(1, 1, 0)),
            (work(2, SENT), log(2, 1, 0)),
            (work(3), BEGIN + [GRANTED]),
            (work(3), log(3, 1, 0) + [GRANTED]),
            (arrive(2), log(2, 1, 0) + [SHUT_OUT]),
            (arrive(1), log(1, 1, 0) + [SHUT_OUT]),
            (work(3), data(3, 1, 0, 1, 4) + [GRANTED]),
            (work(2), log(2, 1, 0) + [SHUT_OUT]),
            (work(3), end(3, 1, 1, 4) + [GRANTED]),
            (work(2), BEGIN + [WAIT]),
            (work(1), log(1, 1, 0) + [SHUT_OUT]),
            (crash(3), [0]),
            (work(1), BEGIN + [WAIT]),
            (start(3), [0]),
            (work(3), BEGIN + [WAIT]),
        )


if __name__ == "__main__":
    unittest.main()
