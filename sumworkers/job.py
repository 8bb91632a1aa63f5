"""The calls on a job, and the list of their answers."""

from sumworkers.keeper import TO_STAND, Keeper
from sumworkers.log import Log
from sumworkers.request import BEGIN, DATA, LOG
from sumworkers.worker import Worker

FIRST_BATCH = 2
LARGEST_BATCH = 5
LARGEST_VALUE = 1000
WORKER_COUNT = 3
LOG_COUNT = 2

IS_ANSWERED = 0
ANSWER_IS_LOST = 1
IS_IN_THE_AIR = 3

OUT_OF_RANGE = -1
NO_SUCH_WAY = -2
WRONG_TRANSACTION_STATE = -4
NOT_IN_THE_AIR = -5
WRONG_WORKER_STATE = -6


class Job:
    """The input, the logs, the keeper, the workers, and the requests in the air."""

    def __init__(self):
        self.begin(FIRST_BATCH)

    def begin(self, batch):
        """All is as at first, with this batch."""
        self.batch = batch
        self.numbers = []
        self.logs = [Log(), Log()]
        self.keeper = Keeper()
        self.workers = [Worker(True), Worker(False), Worker(False)]
        self.air = []

    def serve(self, request):
        """The answer to a request: 1, 2 or 3, and behind it what is granted."""
        kind = request[0]
        if kind == BEGIN:
            return self.keeper.serve_begin()
        if kind == LOG:
            return self.keeper.serve_log(request[1], request[2], request[3])
        if kind == DATA:
            return self.logs[request[3]].serve_data(request[1], request[4], request[5])
        return self.keeper.serve_end(request[1], request[2], request[3], request[4])

    def write_marker(self, j):
        """Log j, which lacks it, has its marker; told is which one."""
        state = self.keeper.transaction.state
        if state == TO_STAND:
            self.logs[j].write_stands()
        else:
            self.logs[j].write_goes(self.keeper.epoch)
        self.keeper.note_marker(j)
        return state


def is_worker(i):
    """Whether there is a worker i, up or down."""
    return i >= 1 and i <= WORKER_COUNT


def is_log(j):
    """Whether there is a log j."""
    return j < LOG_COUNT


def call_begin(job, given):
    """begin (batch)"""
    batch = given[0]
    if batch < 1 or batch > LARGEST_BATCH:
        return [OUT_OF_RANGE]
    job.begin(batch)
    return [0]


def call_input(job, given):
    """input (v)"""
    value = given[0]
    if value > LARGEST_VALUE:
        return [OUT_OF_RANGE]
    job.numbers.append(value)
    return [len(job.numbers)]


def call_work(job, given):
    """work (i, how)"""
    i = given[0]
    how = given[1]
    if not is_worker(i):
        return [OUT_OF_RANGE]
    if how > IS_IN_THE_AIR:
        return [NO_SUCH_WAY]
    worker = job.workers[i - 1]
    if not worker.up:
        return [WRONG_WORKER_STATE]
    request = worker.ask(job.numbers, job.batch)
    if request == ():
        return [0]
    return list(request) + send(job, worker, request, how)


def send(job, worker, request, how):
    """The request goes its way; what is told behind it."""
    if how == IS_ANSWERED:
        answer = job.serve(request)
        worker.hear(request, answer)
        return [answer[0]]
    if how == ANSWER_IS_LOST:
        job.serve(request)
    if how == IS_IN_THE_AIR:
        job.air.append(request)
    # Else it is lost: nobody has it.
    return []


def call_arrive(job, given):
    """arrive (k)"""
    k = given[0]
    if k < 1 or k > len(job.air):
        return [NOT_IN_THE_AIR]
    request = job.air.pop(k - 1)
    answer = job.serve(request)
    return list(request) + [answer[0]]


def call_air(job, given):
    """air ()"""
    told = [len(job.air)]
    for request in job.air:
        told.extend(request)
    return told


def call_crash(job, given):
    """crash (i)"""
    return put_worker(job, given[0], False)


def call_start(job, given):
    """start (i)"""
    return put_worker(job, given[0], True)


def put_worker(job, i, up):
    """Worker i is up or down from here on, and knows nothing; refused if it is so already."""
    if not is_worker(i):
        return [OUT_OF_RANGE]
    if job.workers[i - 1].up == up:
        return [WRONG_WORKER_STATE]
    job.workers[i - 1] = Worker(up)
    return [0]


def call_push(job, given):
    """push (j)"""
    j = given[0]
    if not is_log(j):
        return [OUT_OF_RANGE]
    if not job.keeper.awaits_marker(j):
        return [WRONG_TRANSACTION_STATE]
    return [job.write_marker(j)]


def call_expire(job, given):
    """expire ()"""
    if not job.keeper.has_open():
        return [WRONG_TRANSACTION_STATE]
    job.keeper.undo()
    return [job.keeper.epoch]


def call_read(job, given):
    """read (j, n)"""
    j = given[0]
    if not is_log(j):
        return [OUT_OF_RANGE]
    sums = job.logs[j].seen_sums()[given[1]:]
    return [len(sums)] + sums


def call_raw(job, given):
    """raw (j)"""
    j = given[0]
    if not is_log(j):
        return [OUT_OF_RANGE]
    told = [len(job.logs[j].records)]
    for record in job.logs[j].records:
        told.extend(record)
    return told


def call_worker(job, given):
    """worker (i)"""
    i = given[0]
    if not is_worker(i):
        return [OUT_OF_RANGE]
    one = job.workers[i - 1]
    return [int(one.up), one.epoch, one.place, one.total, one.number, one.granted_data, int(one.ending)]


def call_keeper(job, given):
    """keeper ()"""
    one = job.keeper
    told = [one.epoch, one.last_ended, one.place, one.total]
    if one.transaction is None:
        return told + [0]
    return told + [1] + tell_transaction(one.transaction)


def tell_transaction(transaction):
    """Its number, its state, which logs it has, and which ones lack its marker."""
    told = [transaction.number, transaction.state]
    for flag in transaction.has_log + transaction.lacks_marker:
        told.append(int(flag))
    return told


# By a call's number: what serves it, and how many whole numbers it has.
CALLS = {
    0: (call_begin, 1),
    1: (call_input, 1),
    2: (call_work, 2),
    3: (call_arrive, 1),
    4: (call_air, 0),
    5: (call_crash, 1),
    6: (call_start, 1),
    7: (call_push, 1),
    8: (call_expire, 0),
    9: (call_read, 2),
    10: (call_raw, 1),
    11: (call_worker, 1),
    12: (call_keeper, 0),
}


def answers(calls):
    """For each call, in order: how many numbers are answered, then these."""
    job = Job()
    told = []
    at = 0
    while at < len(calls):
        call = CALLS[calls[at]]
        behind = at + 1 + call[1]
        answer = call[0](job, calls[at + 1:behind])
        told.append(len(answer))
        told.extend(answer)
        at = behind
    return told
