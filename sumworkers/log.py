"""A log: what is written to it, and whose data it still takes."""

from sumworkers.request import GRANTED, SHUT_OUT

DATA_RECORD = 1


class Log:
    """Its records, and the epoch and the last number that it knows."""

    def __init__(self):
        self.records = []
        self.epoch = 0
        self.last_number = 0

    def serve_data(self, epoch, number, total):
        """The answer to data of an epoch, with its number there and its sum."""
        if epoch < self.epoch:
            return (SHUT_OUT,)
        last = self.last_number if epoch == self.epoch else 0
        if number <= last:
            # It came before and only its answer was lost: a second record would show the sum twice.
            return (GRANTED,)
        if number > last + 1:
            return (SHUT_OUT,)
        self.records.append((DATA_RECORD, epoch, total))
        self.epoch = epoch
        self.last_number = number
        return (GRANTED,)
