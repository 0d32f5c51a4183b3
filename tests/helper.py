"""What the tests share: calls written out, and answers taken apart."""

from cacheguess.processor import answers

END = 2 ** 48

FETCH, READ, WRITE, BRANCH, JUMP, CALL, RETURN = range(7)

PER_CACHE = ("reads_found", "reads_missed", "writes_found", "writes_missed", "put_away", "ahead")
AT_THE_END = ("memory_reads", "memory_writes", "branches", "wrong", "jumps", "unknown", "returns", "lost")


def cache(sets=0, ways=1, line=4, policy=0, through=0, ahead=0):
    return [sets, ways, line, policy, through, ahead]


def guesses(way=0, size=0, history=0, places=0, target_sets=0, target_ways=1, returns=0):
    return [way, size, history, places, target_sets, target_ways, returns]


def settings(*caches, guess=None):
    numbers = []
    for one in caches:
        numbers += one
    return numbers + (guesses() if guess is None else guess)


def start(n, numbers):
    return [0, n, len(numbers)] + numbers


def start_with(*caches, guess=None):
    return start(len(caches), settings(*caches, guess=guess))


def record(address=0, to=0, size=1, kind=READ, taken=0):
    return (address, to, size, kind, taken)


def run(*records):
    numbers = [number for one in records for number in one]
    return [1, len(numbers)] + numbers


TOLD = [2]


def split_answers(flat):
    rows = []
    at = 0
    while at < len(flat):
        rows.append(flat[at + 1:at + 1 + flat[at]])
        at += 1 + flat[at]
    return rows


def rows_of(*calls):
    return split_answers(answers([number for call in calls for number in call]))


def names_told(n):
    names = [f"{name}{k}" for k in range(1, n + 1) for name in PER_CACHE]
    return names + list(AT_THE_END)


def counts_after(caches, records, guess=None):
    """What is told after one run, by name, those at 0 left out."""
    rows = rows_of(start_with(*caches, guess=guess), run(*records), TOLD)
    assert rows[:2] == [[0], [0]], rows[:2]
    told = dict(zip(names_told(len(caches)), rows[2][1:], strict=True))
    return {name: count for name, count in told.items() if count}


def reads(*addresses):
    return [record(address, kind=READ) for address in addresses]


def writes(*addresses):
    return [record(address, kind=WRITE) for address in addresses]


def branches(outcomes, address=0):
    return [record(address, kind=BRANCH, taken=int(sign)) for sign in outcomes]
