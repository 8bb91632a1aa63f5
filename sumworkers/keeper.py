"""The keeper: the place and the sum that are kept, and the transaction under way."""

from sumworkers.request import GRANTED, SHUT_OUT, WAIT

IS_OPEN = 0
TO_STAND = 1
TO_GO = 2


class Transaction:
    """Its number, the logs it has asked for, what is to become of it, and where it leads."""

    def __init__(self, number):
        self.number = number
        self.state = IS_OPEN
        self.has_log = [False, False]
        self.lacks_marker = [False, False]
        self.place = 0
        self.total = 0

    def settle(self, state):
        """From here on it is to stand or to go, and each log that it has lacks a marker."""
        self.state = state
        self.lacks_marker = list(self.has_log)


class Keeper:
    """It lets one epoch at a time write, and one transaction at a time be under way."""

    def __init__(self):
        self.epoch = 0
        self.last_ended = 0
        self.place = 0
        self.total = 0
        self.transaction = None

    def serve_begin(self):
        """The answer to begin; granted, it brings the epoch, the place and the sum."""
        if self.transaction is None:
            self.epoch += 1
            self.last_ended = 0
            return (GRANTED, self.epoch, self.place, self.total)
        if self.has_open():
            self.undo()
        return (WAIT,)

    def has_open(self):
        """Whether a transaction is under way and open."""
        return self.transaction is not None and self.transaction.state == IS_OPEN

    def undo(self):
        """The open transaction is to go."""
        # A new epoch shuts out the worker whose transaction it was.
        self.epoch += 1
        self.transaction.settle(TO_GO)

    def serve_log(self, epoch, number, j):
        """The answer to a transaction that asks for log j."""
        if epoch != self.epoch:
            return (SHUT_OUT,)
        if self.is_past(number):
            return (GRANTED,)
        if self.transaction is None:
            self.transaction = Transaction(number)
        if self.transaction.number != number:
            return (WAIT,)
        self.transaction.has_log[j] = True
        return (GRANTED,)

    def is_past(self, number):
        """Whether this transaction takes no more logs, so that a late request for one does nothing."""
        if self.transaction is None:
            return number <= self.last_ended
        if self.transaction.number == number:
            return self.transaction.state != IS_OPEN
        return self.transaction.number > number

    def serve_end(self, epoch, number, place, total):
        """The answer to a transaction that is to stand, with the place and the sum behind it."""
        if epoch != self.epoch:
            return (SHUT_OUT,)
        if self.has_open() and self.transaction.number == number:
            self.transaction.settle(TO_STAND)
            self.transaction.place = place
            self.transaction.total = total
        return (GRANTED,)

    def awaits_marker(self, j):
        """Whether a transaction is under way whose marker log j lacks."""
        return self.transaction is not None and self.transaction.lacks_marker[j]

    def note_marker(self, j):
        """Log j has its marker; if no log lacks one any more, the transaction is over."""
        self.transaction.lacks_marker[j] = False
        if True not in self.transaction.lacks_marker:
            self.close()

    def close(self):
        """The transaction under way is over."""
        if self.transaction.state == TO_STAND:
            self.place = self.transaction.place
            self.total = self.transaction.total
        self.last_ended = self.transaction.number
        self.transaction = None
