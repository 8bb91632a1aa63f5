"""What the document says of logs, keeper and workers, also where no list of calls can show it."""

import unittest

from sumworkers.job import Job
from sumworkers.keeper import IS_OPEN, TO_GO, TO_STAND, Keeper
from sumworkers.log import Log
from sumworkers.worker import Worker

GRANTED, WAIT, SHUT_OUT = (1,), (2,), (3,)


class LogTest(unittest.TestCase):
    def setUp(self):
        self.log = Log()

    def knows(self):
        return (self.log.epoch, self.log.last_number, self.log.records)

    def test_at_first(self):
        self.assertEqual(self.knows(), (0, 0, []))

    def test_the_next_number_is_written(self):
        self.assertEqual(self.log.serve_data(1, 1, 8), GRANTED)
        self.assertEqual(self.log.serve_data(1, 2, 6), GRANTED)
        self.assertEqual(self.knows(), (1, 2, [(1, 1, 8), (1, 1, 6)]))

    def test_a_number_that_came_before_is_not_written_again(self):
        self.log.serve_data(1, 1, 8)
        self.log.serve_data(1, 2, 6)
        self.assertEqual(self.log.serve_data(1, 1, 8), GRANTED)
        self.assertEqual(self.log.serve_data(1, 2, 6), GRANTED)
        self.assertEqual(self.knows(), (1, 2, [(1, 1, 8), (1, 1, 6)]))

    def test_a_number_too_high_is_shut_out(self):
        self.assertEqual(self.log.serve_data(1, 2, 8), SHUT_OUT)
        self.assertEqual(self.knows(), (0, 0, []))
        self.log.serve_data(1, 1, 8)
        self.assertEqual(self.log.serve_data(1, 3, 6), SHUT_OUT)
        self.assertEqual(self.knows(), (1, 1, [(1, 1, 8)]))

    def test_a_higher_epoch_counts_from_1(self):
        self.log.serve_data(1, 1, 8)
        self.log.serve_data(1, 2, 6)
        self.assertEqual(self.log.serve_data(3, 3, 4), SHUT_OUT)
        self.assertEqual(self.log.serve_data(3, 2, 4), SHUT_OUT)
        self.assertEqual(self.log.serve_data(3, 1, 4), GRANTED)
        self.assertEqual(self.knows(), (3, 1, [(1, 1, 8), (1, 1, 6), (1, 3, 4)]))

    def test_a_lower_epoch_is_shut_out(self):
        self.log.serve_data(3, 1, 4)
        self.assertEqual(self.log.serve_data(2, 1, 8), SHUT_OUT)
        self.assertEqual(self.log.serve_data(2, 2, 8), SHUT_OUT)
        self.assertEqual(self.knows(), (3, 1, [(1, 3, 4)]))

    def test_behind_stands_it_knows_what_it_knew(self):
        self.log.serve_data(3, 1, 4)
        self.log.serve_data(3, 2, 6)
        self.log.write_stands()
        self.assertEqual(self.knows(), (3, 2, [(1, 3, 4), (1, 3, 6), (2,)]))

    def test_behind_goes_it_knows_the_keeper_s_epoch_and_0(self):
        self.log.serve_data(3, 1, 4)
        self.log.serve_data(3, 2, 6)
        self.log.write_goes(4)
        self.assertEqual(self.knows(), (4, 0, [(1, 3, 4), (1, 3, 6), (3,)]))
        self.assertEqual(self.log.serve_data(3, 3, 8), SHUT_OUT)
        self.assertEqual(self.log.serve_data(4, 2, 8), SHUT_OUT)
        self.assertEqual(self.log.serve_data(4, 1, 8), GRANTED)

    def test_stands_with_no_data_ahead_of_it(self):
        self.log.write_stands()
        self.assertEqual(self.log.seen_sums(), [])
        self.log.serve_data(1, 1, 8)
        self.log.write_stands()
        self.log.write_stands()
        self.assertEqual(self.log.seen_sums(), [8])
        self.log.serve_data(1, 2, 6)
        self.log.write_goes(2)
        self.log.write_stands()
        self.assertEqual(self.log.seen_sums(), [8])


class KeeperTest(unittest.TestCase):
    def setUp(self):
        self.keeper = Keeper()

    def open_transaction(self, number):
        self.keeper.serve_begin()
        self.keeper.serve_log(1, number, 0)

    def under_way(self):
        one = self.keeper.transaction
        return (one.number, one.state, one.has_log, one.lacks_marker)

    def test_at_first(self):
        one = self.keeper
        self.assertEqual((one.epoch, one.last_ended, one.place, one.total, one.transaction), (0, 0, 0, 0, None))

    def test_begin_grants_what_is_kept(self):
        self.assertEqual(self.keeper.serve_begin(), (1, 1, 0, 0))
        self.keeper.place = 4
        self.keeper.total = 19
        self.keeper.last_ended = 3
        self.assertEqual(self.keeper.serve_begin(), (1, 2, 4, 19))
        self.assertEqual(self.keeper.last_ended, 0)

    def test_begin_undoes_one_that_is_open_once(self):
        self.open_transaction(1)
        self.assertEqual(self.under_way(), (1, IS_OPEN, [True, False], [False, False]))
        for again in range(3):
            self.assertEqual(self.keeper.serve_begin(), WAIT)
            self.assertEqual(self.keeper.epoch, 2)
            self.assertEqual(self.under_way(), (1, TO_GO, [True, False], [True, False]))

    def test_begin_does_not_undo_one_that_is_to_stand(self):
        self.open_transaction(1)
        self.keeper.serve_end(1, 1, 5, 9)
        self.assertEqual(self.keeper.serve_begin(), WAIT)
        self.assertEqual(self.keeper.epoch, 1)
        self.assertEqual(self.under_way(), (1, TO_STAND, [True, False], [True, False]))

    def test_log_of_one_that_ended(self):
        self.keeper.serve_begin()
        self.keeper.last_ended = 3
        for number in (1, 2, 3):
            self.assertEqual(self.keeper.serve_log(1, number, 1), GRANTED)
            self.assertIsNone(self.keeper.transaction)
        self.assertEqual(self.keeper.serve_log(1, 4, 1), GRANTED)
        self.assertEqual(self.under_way(), (4, IS_OPEN, [False, True], [False, False]))

    def test_log_with_a_number_below_the_one_under_way(self):
        self.open_transaction(4)
        self.assertEqual(self.keeper.serve_log(1, 3, 1), GRANTED)
        self.assertEqual(self.under_way(), (4, IS_OPEN, [True, False], [False, False]))

    def test_log_with_a_number_above_the_one_under_way(self):
        self.open_transaction(4)
        self.assertEqual(self.keeper.serve_log(1, 5, 1), WAIT)
        self.assertEqual(self.under_way(), (4, IS_OPEN, [True, False], [False, False]))

    def test_log_with_its_number_while_it_is_open_and_no_longer(self):
        self.open_transaction(1)
        self.keeper.serve_end(1, 1, 1, 2)
        self.assertEqual(self.keeper.serve_log(1, 1, 1), GRANTED)
        self.assertEqual(self.under_way(), (1, TO_STAND, [True, False], [True, False]))
        self.keeper = Keeper()
        self.open_transaction(1)
        self.assertEqual(self.keeper.serve_log(1, 1, 1), GRANTED)
        self.assertEqual(self.under_way(), (1, IS_OPEN, [True, True], [False, False]))
        self.keeper.serve_end(1, 1, 1, 2)
        self.assertEqual(self.under_way(), (1, TO_STAND, [True, True], [True, True]))

    def test_log_and_end_of_another_epoch(self):
        self.open_transaction(1)
        for epoch in (0, 2):
            self.assertEqual(self.keeper.serve_log(epoch, 1, 1), SHUT_OUT)
            self.assertEqual(self.keeper.serve_end(epoch, 1, 5, 9), SHUT_OUT)
        self.assertEqual(self.under_way(), (1, IS_OPEN, [True, False], [False, False]))

    def test_end_of_another_transaction_does_nothing(self):
        self.keeper.serve_begin()
        self.assertEqual(self.keeper.serve_end(1, 1, 5, 9), GRANTED)
        self.assertIsNone(self.keeper.transaction)
        self.keeper.serve_log(1, 2, 0)
        self.assertEqual(self.keeper.serve_end(1, 1, 5, 9), GRANTED)
        self.assertEqual(self.keeper.serve_end(1, 3, 5, 9), GRANTED)
        self.assertEqual(self.under_way(), (2, IS_OPEN, [True, False], [False, False]))

    def test_end_tells_where_it_leads_and_keeps_nothing_yet(self):
        self.open_transaction(1)
        self.assertEqual(self.keeper.serve_end(1, 1, 5, 9), GRANTED)
        self.assertEqual(self.keeper.serve_end(1, 1, 6, 10), GRANTED)
        self.assertEqual((self.keeper.transaction.place, self.keeper.transaction.total), (5, 9))
        self.assertEqual((self.keeper.place, self.keeper.total), (0, 0))

    def test_what_ended_is_its_own_number(self):
        self.open_transaction(4)
        self.keeper.serve_end(1, 4, 5, 9)
        self.keeper.note_marker(0)
        one = self.keeper
        self.assertEqual((one.epoch, one.last_ended, one.place, one.total, one.transaction), (1, 4, 5, 9, None))
        self.keeper.serve_log(1, 7, 1)
        self.keeper.undo()
        self.assertEqual((one.epoch, one.last_ended), (2, 4))
        self.keeper.note_marker(1)
        self.assertEqual((one.epoch, one.last_ended, one.place, one.total, one.transaction), (2, 7, 5, 9, None))


class WorkerTest(unittest.TestCase):
    def setUp(self):
        self.worker = Worker(True)

    def knows(self):
        one = self.worker
        return (one.epoch, one.place, one.total, one.number, one.granted_data, one.ending)

    def test_a_granted_begin_brings_the_place_and_the_sum(self):
        self.worker.hear((1,), (1, 7, 2, 30))
        self.assertEqual(self.knows(), (7, 2, 30, 1, 0, False))
        self.assertEqual(self.worker.ask([10, 20, 5], 2), (2, 7, 1, 1))
        self.worker.hear((2, 7, 1, 1), GRANTED)
        self.assertEqual(self.worker.ask([10, 20, 5], 2), (3, 7, 1, 1, 1, 35))

    def test_the_sum_is_taken_modulo_1000003(self):
        for value, total in ((2, 1000002), (3, 0), (4, 1), (1000, 997)):
            self.worker.hear((1,), (1, 1, 0, 1000000))
            self.worker.hear((2, 1, 1, 0), GRANTED)
            self.worker.hear((2, 1, 1, 1), GRANTED)
            self.assertEqual(self.worker.ask([value], 1), (3, 1, 1, total % 2, 1, total))

    def test_shut_out_from_data_it_forgets_all(self):
        self.worker.hear((1,), (1, 1, 0, 0))
        self.worker.hear((2, 1, 1, 0), GRANTED)
        self.worker.hear((3, 1, 1, 0, 1, 2), GRANTED)
        self.assertEqual(self.worker.ask([2], 2), (4, 1, 1, 1, 2))
        self.assertEqual(self.knows(), (1, 1, 2, 1, 1, True))
        self.worker.hear((3, 1, 1, 0, 2, 4), SHUT_OUT)
        self.assertEqual(self.knows(), (0, 0, 0, 0, 0, False))
        self.assertTrue(self.worker.up)
        self.assertEqual(self.worker.ask([2], 2), (1,))

    def test_the_next_numbers_stay_behind_an_end(self):
        self.worker.hear((1,), (1, 1, 0, 0))
        self.worker.hear((2, 1, 1, 0), GRANTED)
        self.worker.hear((3, 1, 1, 0, 1, 2), GRANTED)
        self.worker.hear((4, 1, 1, 1, 2), GRANTED)
        self.assertEqual(self.knows(), (1, 1, 2, 2, 0, False))
        self.assertEqual(self.worker.ask([2, 2], 1), (2, 1, 2, 0))
        self.worker.hear((2, 1, 2, 0), GRANTED)
        self.assertEqual(self.worker.ask([2, 2], 1), (3, 1, 2, 0, 2, 4))

    def test_a_new_epoch_counts_its_data_from_1(self):
        self.worker.hear((1,), (1, 1, 0, 0))
        self.worker.hear((2, 1, 1, 0), GRANTED)
        self.worker.hear((3, 1, 1, 0, 1, 2), GRANTED)
        self.worker.hear((4, 1, 1, 1, 2), SHUT_OUT)
        self.worker.hear((1,), (1, 3, 0, 0))
        self.worker.hear((2, 3, 1, 0), GRANTED)
        self.assertEqual(self.worker.ask([2], 2), (3, 3, 1, 0, 1, 2))


class JobTest(unittest.TestCase):
    def test_each_number_of_a_request_comes_to_its_place(self):
        job = Job()
        self.assertEqual(job.serve((1,)), (1, 1, 0, 0))
        self.assertEqual(job.serve((1,)), (1, 2, 0, 0))
        self.assertEqual(job.serve((2, 2, 5, 1)), GRANTED)
        self.assertEqual(job.keeper.transaction.number, 5)
        self.assertEqual(job.keeper.transaction.has_log, [False, True])
        self.assertEqual(job.serve((3, 2, 5, 1, 1, 9)), GRANTED)
        self.assertEqual((job.logs[0].epoch, job.logs[0].last_number, job.logs[0].records), (0, 0, []))
        self.assertEqual((job.logs[1].epoch, job.logs[1].last_number, job.logs[1].records), (2, 1, [(1, 2, 9)]))
        self.assertEqual(job.serve((3, 2, 5, 1, 2, 7)), GRANTED)
        self.assertEqual(job.logs[1].records, [(1, 2, 9), (1, 2, 7)])
        self.assertEqual(job.serve((4, 2, 5, 6, 9)), GRANTED)
        self.assertEqual((job.keeper.transaction.place, job.keeper.transaction.total), (6, 9))

    def test_a_log_knows_the_keeper_s_epoch_behind_goes(self):
        job = Job()
        job.serve((1,))
        job.serve((2, 1, 1, 0))
        job.serve((3, 1, 1, 0, 1, 8))
        job.keeper.undo()
        self.assertEqual(job.write_marker(0), 2)
        self.assertEqual((job.logs[0].epoch, job.logs[0].last_number), (2, 0))
        self.assertEqual((job.logs[1].epoch, job.logs[1].last_number), (0, 0))


if __name__ == "__main__":
    unittest.main()
