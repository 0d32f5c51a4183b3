"""One processor, the calls on it, and what they answer."""

from cacheguess.branches import Branches
from cacheguess.cache import Memory, new_caches
from cacheguess.chance import Chance
from cacheguess.jumps import Returns, Targets
from cacheguess.limits import COUNT_END, MOST_RECORDS
from cacheguess.records import BRANCH, CALL, FETCH, JUMP, READ, WRITE, first_wrong, records_of
from cacheguess.settings import settings_of_caches, settings_of_guesses, settings_right

FEWEST_CACHES = 2
MOST_CACHES = 4

START = 0
RUN = 1


class Processor:
    def __init__(self, n, settings):
        guesses = settings_of_guesses(n, settings)
        self.memory = Memory()
        self.caches = new_caches(settings_of_caches(n, settings), Chance(), self.memory)
        self.branches = Branches(guesses)
        self.targets = Targets(guesses[4], guesses[5])
        self.returns = Returns(guesses[6])

    def run(self, numbers):
        records = records_of(numbers)
        if len(records) > MOST_RECORDS:
            return -1
        # All are looked at before one is followed: a refusal leaves everything as it was.
        wrong = first_wrong(records)
        if wrong is not None:
            return -2 - wrong
        for record in records:
            self.follow(record)
        return 0

    def follow(self, record):
        if record.kind == FETCH:
            self.caches[0].access_bytes(record.address, record.size, False)
        elif record.kind == READ or record.kind == WRITE:
            self.caches[1].access_bytes(record.address, record.size, record.kind == WRITE)
        elif record.kind == BRANCH:
            self.follow_branch(record)
        elif record.kind == JUMP or record.kind == CALL:
            self.follow_jump(record)
        else:
            self.returns.follow_return(record.to)

    def follow_branch(self, record):
        taken = record.taken == 1
        self.branches.follow_branch(record.address, taken)
        if taken:
            self.targets.follow_jump(record.address, record.to)

    def follow_jump(self, record):
        self.targets.follow_jump(record.address, record.to)
        if record.kind == CALL:
            self.returns.keep(record.address + record.size)

    def told(self):
        numbers = []
        for cache in self.caches:
            numbers.extend(cache.counted())
        numbers.extend([self.memory.reads, self.memory.writes])
        numbers.extend([self.branches.branches, self.branches.wrong])
        numbers.extend([self.targets.jumps, self.targets.unknown])
        numbers.extend([self.returns.returns, self.returns.lost])
        return [len(numbers)] + [number % COUNT_END for number in numbers]


def start_answer(n, settings):
    if n < FEWEST_CACHES or n > MOST_CACHES:
        return -1
    if not settings_right(n, settings):
        return -2
    return 0


# A row lies behind its own length.
def row_at(calls, at):
    return calls[at + 1 : at + 1 + calls[at]]


def answers(calls):
    processor = None
    answered = []
    at = 0
    while at < len(calls):
        if calls[at] == START:
            n = calls[at + 1]
            settings = row_at(calls, at + 2)
            answer = [start_answer(n, settings)]
            if answer == [0]:
                processor = Processor(n, settings)
            at += 3 + len(settings)
        elif calls[at] == RUN:
            records = row_at(calls, at + 1)
            answer = [processor.run(records)]
            at += 2 + len(records)
        else:
            answer = processor.told()
            at += 1
        answered.append(len(answer))
        answered.extend(answer)
    return answered
