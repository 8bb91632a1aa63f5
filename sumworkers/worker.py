"""A worker: what it knows, what it asks next, and what it does with the answer."""

from sumworkers.request import BEGIN, DATA, END, GRANTED, LOG, SHUT_OUT

MODULUS = 1000003


class Worker:
    """It is up or down; its epoch is 0 as long as it has none, for the keeper grants none below 1."""

    def __init__(self, up):
        self.up = up
        self.forget()

    def forget(self):
        """It has no epoch and nothing else."""
        self.go_on_from(0, 0, 0)
        self.number = 0

    def go_on_from(self, epoch, place, total):
        """It has this epoch, and begins with transaction 1 at this place and sum."""
        self.epoch = epoch
        self.place = place
        self.total = total
        self.next_numbers = [1, 1]
        self.turn_to(1)

    def turn_to(self, number):
        """It is at the beginning of the transaction with this number."""
        self.number = number
        self.granted_logs = [False, False]
        self.granted_data = 0
        self.ending = False

    def ask(self, numbers, batch):
        """What it asks next; an empty tuple if that is nothing."""
        request = self.next_request(numbers, batch)
        if request != () and request[0] == END:
            # Its end may have been served though no answer came, so it must not write more into it.
            self.ending = True
        return request

    def next_request(self, numbers, batch):
        """The request that follows from what it knows, the input and the batch."""
        if self.epoch == 0:
            return (BEGIN,)
        has_more = self.place < len(numbers) and self.granted_data < batch
        if has_more and not self.ending:
            return self.write_request(numbers[self.place])
        if self.ending or self.granted_data > 0:
            return (END, self.epoch, self.number, self.place, self.total)
        return ()

    def write_request(self, value):
        """The request that brings the sum with this value nearer to its log."""
        total = (self.total + value) % MODULUS
        j = total % 2
        if not self.granted_logs[j]:
            return (LOG, self.epoch, self.number, j)
        return (DATA, self.epoch, self.number, j, self.next_numbers[j], total)

    def hear(self, request, answer):
        """It takes the answer to its request; at wait it does nothing."""
        if answer[0] == SHUT_OUT:
            self.forget()
        if answer[0] == GRANTED:
            self.take(request, answer)

    def take(self, request, answer):
        """What it asked for is granted."""
        kind = request[0]
        if kind == BEGIN:
            self.go_on_from(answer[1], answer[2], answer[3])
        elif kind == LOG:
            self.granted_logs[request[3]] = True
        elif kind == DATA:
            self.take_data(request[3], request[5])
        else:
            self.turn_to(self.number + 1)

    def take_data(self, j, total):
        """This sum is in log j: it goes on behind it."""
        self.place += 1
        self.total = total
        self.next_numbers[j] += 1
        self.granted_data += 1
