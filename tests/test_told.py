import unittest

from cacheguess.processor import Processor
from tests.helper import (
    BRANCH, CALL, FETCH, JUMP, READ, RETURN, TOLD, WRITE, cache, guesses, record, rows_of, run, settings, start_with,
)

# Each count that can differ from the others does: see the numbers wanted below.
RECORDS = (
    [record(0, kind=FETCH)] * 3
    + [record(64 * k, kind=FETCH) for k in (1, 2)]
    + [record(64 * k, kind=READ) for k in (8, 8, 8, 8, 8, 9, 10, 11, 12, 13)]
    + [record(64 * k, kind=WRITE) for k in (13, 13, 13, 13, 13, 13, 13, 20, 21, 22, 23, 24, 25, 26, 27)]
    + [record(4, 100, kind=BRANCH, taken=0)] * 20
    + [record(4, 100, kind=BRANCH, taken=1)] * 11
    + [record(8, 100 + k, kind=JUMP) for k in range(13)]
    + [record(64, 0, 4, CALL)] * 2
    + [record(0, 68, kind=RETURN)] * 22
)


class Told(unittest.TestCase):
    def test_before_any_run(self):
        for n in (2, 3, 4):
            rows = rows_of(start_with(*[cache()] * n), TOLD, TOLD)
            self.assertEqual(rows[1:], [[6 * n + 8] + [0] * (6 * n + 8)] * 2)

    def test_every_number_in_its_order_with_two_caches(self):
        caches = [cache(ahead=1), cache(ahead=1)]
        rows = rows_of(start_with(*caches, guess=guesses(target_ways=2, returns=8)), run(*RECORDS), TOLD)
        first = [0, 5, 0, 0, 0, 5]
        second = [0, 10, 0, 15, 15, 25]
        rest = [60, 15, 31, 11, 26, 15, 22, 20]
        self.assertEqual(rows[2], [20] + first + second + rest)

    def test_every_number_in_its_order_with_three_caches(self):
        caches = [cache(), cache(), cache(ahead=1, ways=2)]
        rows = rows_of(start_with(*caches, guess=guesses(target_ways=2, returns=8)), run(*RECORDS), TOLD)
        first = [2, 3, 0, 0, 0, 0]
        second = [4, 6, 7, 8, 8, 0]
        third = [0, 17, 8, 0, 8, 17]
        rest = [34, 8, 31, 11, 26, 15, 22, 20]
        self.assertEqual(rows[2], [26] + first + second + third + rest)

    def test_every_number_in_its_order_with_four_caches(self):
        caches = [cache(), cache(through=1), cache(), cache(line=7)]
        records = [record(0, kind=FETCH)] * 4 + [record(64 * k, kind=WRITE) for k in (0, 1, 1, 2)]
        rows = rows_of(start_with(*caches), run(*records), TOLD)
        first = [3, 1, 0, 0, 0, 0]
        second = [0, 0, 0, 4, 0, 0]
        third = [0, 1, 2, 2, 2, 0]
        fourth = [1, 2, 2, 0, 1, 0]
        self.assertEqual(rows[2], [32] + first + second + third + fourth + [2, 1] + [0] * 6)

    def test_counts_go_on_over_runs(self):
        begin = start_with(cache(), cache(), guess=guesses(way=1, returns=4))
        whole = rows_of(begin, run(*RECORDS), TOLD)
        parted = rows_of(begin, *[run(one) for one in RECORDS], TOLD)
        self.assertEqual(parted[-1], whole[-1])

    def test_telling_changes_nothing(self):
        begin = start_with(cache(), cache(), guess=guesses(way=1, returns=4))
        once = rows_of(begin, run(*RECORDS), run(*RECORDS), TOLD)
        often = rows_of(begin, TOLD, run(*RECORDS), TOLD, TOLD, run(*RECORDS), TOLD, TOLD)
        self.assertEqual(often[3], often[4])
        self.assertEqual(often[6], often[7])
        self.assertEqual(often[7], once[3])


class Modulo(unittest.TestCase):
    # No list of calls counts so far, so the counts are set here.
    def test_each_modulo_2_to_64(self):
        processor = Processor(2, settings(cache(), cache()))
        for each in processor.caches:
            each.reads_found = each.reads_missed = each.writes_found = each.writes_missed = 2 ** 64
            each.put_away = each.fetched_ahead = 2 ** 64 + 1
        processor.memory.reads = processor.memory.writes = 2 ** 64 + 2
        processor.branches.branches = processor.branches.wrong = 2 ** 65 + 3
        processor.targets.jumps = processor.targets.unknown = 2 ** 64 - 1
        processor.returns.returns = processor.returns.lost = 2 ** 64 + 5
        told = [0, 0, 0, 0, 1, 1] * 2 + [2, 2, 3, 3, 2 ** 64 - 1, 2 ** 64 - 1, 5, 5]
        self.assertEqual(processor.told(), [20] + told)


if __name__ == "__main__":
    unittest.main()
