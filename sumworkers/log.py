"""A log: what is written to it, whose data it still takes, and what a reader sees of it."""

from sumworkers.request import GRANTED, SHUT_OUT

DATA_RECORD = 1
STANDS_RECORD = 2
GOES_RECORD = 3


class Log:
    """Its records, and the epoch and the last number that it knows."""

    def __init__(self):
        self.records = []
        self.epoch = 0
        self.last_number = 0

    def serve_data(self, epoch, number, total):
        """The answer to data of an epoch, with its number there and its sum."""
        if epoch < self.epoch:
            return (SHUT_OUT,)
        last = self.last_number if epoch == self.epoch else 0
        if number <= last:
            # It came before and only its answer was lost: a second record would show the sum twice.
            return (GRANTED,)
        if number > last + 1:
            return (SHUT_OUT,)
        self.records.append((DATA_RECORD, epoch, total))
        self.epoch = epoch
        self.last_number = number
        return (GRANTED,)

    def write_stands(self):
        """What is behind the marker before this one stands."""
        self.records.append((STANDS_RECORD,))

    def write_goes(self, epoch):
        """What is behind the marker before this one goes, by a keeper of this epoch."""
        self.records.append((GOES_RECORD,))
        # Data that come late from what goes must not be taken for a part of what comes next.
        self.epoch = epoch
        self.last_number = 0

    def seen_sums(self):
        """The sums that a reader sees, in order."""
        seen = []
        unmarked = []
        for record in self.records:
            if record[0] == DATA_RECORD:
                unmarked.append(record[2])
            else:
                if record[0] == STANDS_RECORD:
                    seen.extend(unmarked)
                unmarked = []
        return seen
