"""begin, input, crash and start, what the interface promises of the list, and the refusals of work."""

import unittest

from sumworkers.job import answers
from tests.lines import (
    AIR, AT_FIRST, BEGIN, EXPIRE, GRANTED, KEEPER, LARGEST, LOST, SENT, SERVED, SHUT_OUT, UNHEARD, WAIT, LineCase,
    arrive, begin, crash, data, end, log, push, put, raw, read, start, work, worker,
)


class BeginTest(LineCase):
    def test_batch(self):
        for batch in (1, 2, 3, 4, 5):
            self.check((begin(batch), [0]))
        for batch in (0, 6, 7, LARGEST):
            self.check((begin(batch), [-1]))

    def test_a_line_is_at_first_as_behind_begin_2(self):
        steps = [
            (AIR, [0]),
            (crash(2), [-6]),
            (crash(3), [-6]),
            (start(1), [-6]),
            (put(2), [1]),
            (put(2), [2]),
            (put(2), [3]),
            (work(1), BEGIN + [GRANTED]),
            (work(1), log(1, 1, 0) + [GRANTED]),
            (work(1), data(1, 1, 0, 1, 2) + [GRANTED]),
            (work(1), data(1, 1, 0, 2, 4) + [GRANTED]),
            (work(1), end(1, 1, 2, 4) + [GRANTED]),
        ]
        self.check(*steps)
        self.check((begin(2), [0]), *steps)
        self.check(*AT_FIRST)
        self.check((begin(2), [0]), *AT_FIRST)

    def test_data_of_a_transaction_for_each_batch(self):
        for batch in (1, 2, 3, 4, 5):
            steps = [(begin(batch), [0])]
            steps += [(put(2), [place + 1]) for place in range(batch + 1)]
            steps += [(work(1), BEGIN + [GRANTED]), (work(1), log(1, 1, 0) + [GRANTED])]
            steps += [(work(1), data(1, 1, 0, number, 2 * number) + [GRANTED]) for number in range(1, batch + 1)]
            steps += [(work(1), end(1, 1, batch, 2 * batch) + [GRANTED])]
            self.check(*steps)

    def test_again_the_input_and_the_air_are_empty(self):
        self.check(
            (put(7), [1]),
            (put(7), [2]),
            (work(1, SENT), BEGIN),
            (work(1, SENT), BEGIN),
            (AIR, [2, 1, 1]),
            (begin(3), [0]),
            (AIR, [0]),
            (arrive(1), [-5]),
            (work(1), BEGIN + [GRANTED]),
            (work(1), [0]),
            (put(9), [1]),
            (work(1), log(1, 1, 1) + [GRANTED]),
            (work(1), data(1, 1, 1, 1, 9) + [GRANTED]),
        )

    def test_again_the_workers_are_as_at_first(self):
        self.check(
            (work(1), BEGIN + [GRANTED]),
            (start(2), [0]),
            (start(3), [0]),
            (crash(1), [0]),
            (begin(2), [0]),
            (work(2), [-6]),
            (work(3), [-6]),
            (start(1), [-6]),
            (work(1), BEGIN + [GRANTED]),
            (work(1), [0]),
            (begin(2), [0]),
            (work(1), BEGIN + [GRANTED]),
        )

    def test_again_the_keeper_and_the_logs_are_as_at_first(self):
        steps = [(put(2), [1]), (put(1), [2])]
        steps += [(work(1, UNHEARD), BEGIN)] * 3
        steps += [
            (work(1), BEGIN + [GRANTED]),
            (work(1), log(4, 1, 0) + [GRANTED]),
            (work(1), data(4, 1, 0, 1, 2) + [GRANTED]),
            (work(1), log(4, 1, 1) + [GRANTED]),
            (work(1), data(4, 1, 1, 1, 3) + [GRANTED]),
            (begin(2), [0]),
            (put(4), [1]),
            (put(1), [2]),
            (work(1), BEGIN + [GRANTED]),
            # Logs that still knew epoch 4 would shut these data out.
            (work(1), log(1, 1, 0) + [GRANTED]),
            (work(1), data(1, 1, 0, 1, 4) + [GRANTED]),
            (work(1), log(1, 1, 1) + [GRANTED]),
            (work(1), data(1, 1, 1, 1, 5) + [GRANTED]),
            (work(1), end(1, 1, 2, 5) + [GRANTED]),
        ]
        self.check(*steps)

    def test_refused_changes_nothing(self):
        for batch in (0, 6, LARGEST):
            self.check(
                (begin(1), [0]),
                (put(2), [1]),
                (put(2), [2]),
                (start(3), [0]),
                (work(1), BEGIN + [GRANTED]),
                (work(1), log(1, 1, 0) + [GRANTED]),
                (work(1, SENT), data(1, 1, 0, 1, 2)),
                (begin(batch), [-1]),
                (AIR, [1] + data(1, 1, 0, 1, 2)),
                (start(3), [-6]),
                (put(2), [3]),
                (work(1), data(1, 1, 0, 1, 2) + [GRANTED]),
                (work(1), end(1, 1, 1, 2) + [GRANTED]),
                (work(1), log(1, 2, 0) + [WAIT]),
            )


class InputTest(LineCase):
    def test_values(self):
        self.check(
            (put(0), [1]),
            (put(1000), [2]),
            (put(1001), [-1]),
            (put(LARGEST), [-1]),
            (put(1), [3]),
        )

    def test_refused_is_not_in_the_input(self):
        self.check(
            (put(1001), [-1]),
            (work(1), BEGIN + [GRANTED]),
            (work(1), [0]),
            (put(1000), [1]),
            (put(1001), [-1]),
            (work(1), log(1, 1, 0) + [GRANTED]),
            (work(1), data(1, 1, 0, 1, 1000) + [GRANTED]),
            (work(1), end(1, 1, 1, 1000) + [GRANTED]),
        )

    def test_a_sum_belongs_in_log_0_if_even_and_in_log_1_if_odd(self):
        self.check(
            (begin(5), [0]),
            (put(0), [1]),
            (put(999), [2]),
            (put(1000), [3]),
            (put(1), [4]),
            (put(0), [5]),
            (work(1), BEGIN + [GRANTED]),
            (work(1), log(1, 1, 0) + [GRANTED]),
            (work(1), data(1, 1, 0, 1, 0) + [GRANTED]),
            (work(1), log(1, 1, 1) + [GRANTED]),
            (work(1), data(1, 1, 1, 1, 999) + [GRANTED]),
            (work(1), data(1, 1, 1, 2, 1999) + [GRANTED]),
            (work(1), data(1, 1, 0, 2, 2000) + [GRANTED]),
            (work(1), data(1, 1, 0, 3, 2000) + [GRANTED]),
            (work(1), end(1, 1, 5, 2000) + [GRANTED]),
        )


class CrashStartTest(LineCase):
    def test_refusals(self):
        for i in (0, 4, LARGEST):
            self.check((crash(i), [-1]), (start(i), [-1]))

    def test_each_worker_up_and_down(self):
        self.check(
            (start(1), [-6]),
            (crash(1), [0]),
            (crash(1), [-6]),
            (start(1), [0]),
            (start(1), [-6]),
        )
        for i in (2, 3):
            self.check(
                (crash(i), [-6]),
                (start(i), [0]),
                (start(i), [-6]),
                (crash(i), [0]),
                (crash(i), [-6]),
                (work(i), [-6]),
            )

    def test_a_worker_that_starts_again_has_forgotten_all(self):
        self.check(
            (put(2), [1]),
            (work(1), BEGIN + [GRANTED]),
            (crash(1), [0]),
            (work(1), [-6]),
            (start(1), [0]),
            (work(1), BEGIN + [GRANTED]),
            (work(1), log(2, 1, 0) + [GRANTED]),
            (work(1), data(2, 1, 0, 1, 2) + [GRANTED]),
            (work(1, LOST), end(2, 1, 1, 2)),
            (crash(1), [0]),
            (start(1), [0]),
            (work(1), BEGIN + [WAIT]),
        )

    def test_a_refused_start_or_crash_changes_nothing(self):
        self.check(
            (put(2), [1]),
            (work(1), BEGIN + [GRANTED]),
            (start(1), [-6]),
            (crash(2), [-6]),
            (crash(0), [-1]),
            (start(4), [-1]),
            (work(1), log(1, 1, 0) + [GRANTED]),
            (work(2), [-6]),
        )

    def test_what_a_worker_sent_is_in_the_air_still_when_it_is_down(self):
        self.check(
            (put(2), [1]),
            (work(1), BEGIN + [GRANTED]),
            (work(1, SENT), log(1, 1, 0)),
            (crash(1), [0]),
            (AIR, [1] + log(1, 1, 0)),
            (arrive(1), log(1, 1, 0) + [GRANTED]),
            (start(1), [0]),
            (work(1), BEGIN + [WAIT]),
        )


class WorkRefusalTest(LineCase):
    def test_no_such_worker(self):
        for i in (0, 4, LARGEST):
            for how in (SERVED, UNHEARD, LOST, SENT):
                self.check((work(i, how), [-1]))

    def test_no_such_way(self):
        for how in (4, 5, LARGEST):
            self.check((work(1, how), [-2]))

    def test_down(self):
        for i in (2, 3):
            for how in (SERVED, UNHEARD, LOST, SENT):
                self.check((work(i, how), [-6]), (start(i), [0]), (work(i, LOST), BEGIN))

    def test_of_several_the_one_told_first(self):
        self.check(
            (work(0, 4), [-1]),
            (work(4, LARGEST), [-1]),
            (work(LARGEST, LARGEST), [-1]),
            (work(2, 4), [-2]),
            (work(3, LARGEST), [-2]),
            (work(3, 3), [-6]),
        )

    def test_no_such_way_is_told_where_there_is_nothing_to_ask(self):
        self.check((work(1), BEGIN + [GRANTED]), (work(1, 4), [-2]), (work(1), [0]))

    def test_refused_changes_nothing(self):
        self.check(
            (put(2), [1]),
            (work(1), BEGIN + [GRANTED]),
            (work(1), log(1, 1, 0) + [GRANTED]),
            (work(1), data(1, 1, 0, 1, 2) + [GRANTED]),
            # An end that is refused is not asked: the worker is not ending.
            (work(1, 4), [-2]),
            (work(2), [-6]),
            (work(0), [-1]),
            (AIR, [0]),
            (put(2), [2]),
            (work(1), data(1, 1, 0, 2, 4) + [GRANTED]),
        )


class InterfaceTest(LineCase):
    def test_the_list_number_by_number(self):
        calls = [0, 2, 1, 3, 2, 1, 0, 2, 1, 3, 4, 2, 1, 0, 2, 1, 0, 3, 1, 5, 2, 6, 2, 2, 9, 9]
        told = answers(calls)
        self.assertEqual(told, [
            1, 0,
            1, 1,
            2, 1, 1,
            4, 2, 1, 1, 1,
            5, 1, 2, 1, 1, 1,
            5, 2, 1, 1, 1, 1,
            7, 3, 1, 1, 1, 1, 3, 1,
            5, 2, 1, 1, 1, 1,
            1, -6,
            1, 0,
            1, -1,
        ])
        self.assertIs(type(told), list)

    def test_the_list_number_by_number_of_what_tells(self):
        calls = [
            1, 3, 2, 1, 0, 2, 1, 0, 2, 1, 0, 11, 1, 12, 7, 1, 8, 12, 7, 1, 10, 1, 9, 1, 0, 2, 1, 0, 2, 1, 0, 2, 1, 0,
            2, 1, 0, 2, 1, 0, 7, 1, 9, 1, 0, 9, 1, 1, 10, 1, 11, 2, 12, 7, 2, 8, 9, 2, 9, 10, 2, 11, 0,
        ]
        self.assertEqual(answers(calls), [
            1, 1,
            2, 1, 1,
            5, 2, 1, 1, 1, 1,
            7, 3, 1, 1, 1, 1, 3, 1,
            7, 1, 1, 1, 3, 1, 1, 0,
            11, 1, 0, 0, 0, 1, 1, 0, 0, 1, 0, 0,
            1, -4,
            1, 2,
            11, 2, 0, 0, 0, 1, 1, 2, 0, 1, 0, 1,
            1, 2,
            5, 2, 1, 1, 3, 3,
            1, 0,
            6, 4, 1, 1, 1, 3, 3,
            2, 1, 1,
            5, 2, 3, 1, 1, 1,
            7, 3, 3, 1, 1, 1, 3, 1,
            6, 4, 3, 1, 1, 3, 1,
            1, 1,
            2, 1, 3,
            1, 0,
            9, 4, 1, 1, 3, 3, 1, 3, 3, 2,
            7, 0, 0, 0, 0, 0, 0, 0,
            5, 3, 1, 1, 3, 0,
            1, -1,
            1, -4,
            1, -1,
            1, -1,
            1, -1,
        ])

    def test_the_same_list_twice(self):
        calls = []
        for call in (
            put(3), work(1), work(1), work(1), work(1, SENT), start(2), work(2), work(1), AIR, arrive(1), push(1),
            work(2), KEEPER, raw(1), read(1), worker(1), worker(2), work(2), EXPIRE, push(1), raw(1), begin(1), KEEPER,
        ):
            calls += call
        before = list(calls)
        first = answers(calls)
        self.assertEqual(calls, before)
        answers([1, 5, 5, 1, 6, 2])
        self.assertEqual(answers(calls), first)
        self.assertEqual(answers(list(before)), first)
        self.assertEqual(calls, before)

    def test_what_was_given_back_may_be_changed(self):
        first = answers([1, 5, 4])
        first.append(9)
        self.assertEqual(answers([1, 5, 4]), [1, 1, 1, 0])

    def test_what_is_handed_in_is_never_changed(self):
        class Watched(list):
            def refuse(self, *given):
                raise AssertionError("the list that was handed in is changed")

            append = extend = insert = pop = remove = clear = reverse = sort = refuse
            __setitem__ = __delitem__ = __iadd__ = __imul__ = refuse

        calls = Watched([
            1, 3, 2, 1, 0, 2, 1, 3, 4, 3, 1, 5, 1, 6, 1, 8, 12, 7, 1, 9, 1, 0, 10, 1, 11, 1, 7, 2, 9, 2, 2, 10, 2,
            11, 0, 0, 2, 12,
        ])
        self.assertEqual(answers(calls), answers(list(calls)))

    def test_large_numbers(self):
        self.check(
            (begin(LARGEST), [-1]),
            (put(LARGEST), [-1]),
            (work(LARGEST, LARGEST), [-1]),
            (work(LARGEST, 0), [-1]),
            (work(1, LARGEST), [-2]),
            (arrive(LARGEST), [-5]),
            (crash(LARGEST), [-1]),
            (start(LARGEST), [-1]),
            (push(LARGEST), [-1]),
            (read(LARGEST, LARGEST), [-1]),
            (read(LARGEST, 0), [-1]),
            (read(0, LARGEST), [0]),
            (read(1, LARGEST), [0]),
            (raw(LARGEST), [-1]),
            (worker(LARGEST), [-1]),
            (KEEPER, [0, 0, 0, 0, 0]),
            (work(1, SENT), BEGIN),
            (arrive(LARGEST), [-5]),
            (AIR, [1] + BEGIN),
        )

    def test_200_calls_of_600_numbers(self):
        self.check(*[(work(1, SENT), BEGIN)] * 200)
        self.check(*[(work(1), BEGIN + [GRANTED])] + [(work(1), [0])] * 199)
        self.check(*[(work(1, LARGEST), [-2])] * 200)

    def test_200_calls_with_much_in_the_air(self):
        steps = [(work(1, SENT), BEGIN)] * 100
        steps += [(AIR, [100] + BEGIN * 100)] * 50
        steps += [(arrive(50), BEGIN + [GRANTED])] * 49
        steps += [(work(1), BEGIN + [GRANTED])]
        self.check(*steps)

    def test_200_calls_with_a_long_input(self):
        steps = [(put(1000), [place + 1]) for place in range(190)]
        steps += [
            (work(1), BEGIN + [GRANTED]),
            (work(1), log(1, 1, 0) + [GRANTED]),
            (work(1), data(1, 1, 0, 1, 1000) + [GRANTED]),
            (work(1), data(1, 1, 0, 2, 2000) + [GRANTED]),
            (work(1), end(1, 1, 2, 2000) + [GRANTED]),
        ]
        steps += [(work(1), log(1, 2, 0) + [WAIT])] * 3
        steps += [(start(2), [0]), (work(2), BEGIN + [WAIT])]
        self.check(*steps)

    def test_epochs_go_up_over_200_calls(self):
        steps = [(put(1), [1])]
        steps += [(work(1, UNHEARD), BEGIN)] * 195
        steps += [
            (work(1), BEGIN + [GRANTED]),
            (work(1, SENT), log(196, 1, 1)),
            (crash(1), [0]),
            (arrive(1), log(196, 1, 1) + [GRANTED]),
        ]
        self.check(*steps)

    def test_shut_out_is_told(self):
        self.check(
            (put(1), [1]),
            (work(1), BEGIN + [GRANTED]),
            (start(2), [0]),
            (work(2), BEGIN + [GRANTED]),
            (work(1), log(1, 1, 1) + [SHUT_OUT]),
        )


if __name__ == "__main__":
    unittest.main()
