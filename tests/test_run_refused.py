import unittest

from cacheguess.processor import Processor
from tests.helper import (
    BRANCH, CALL, END, FETCH, JUMP, READ, RETURN, TOLD, WRITE, cache, guesses, record, rows_of, run, settings,
    start_with,
)

PLAIN = start_with(cache(), cache())

WRONG = (
    record(kind=7),
    record(kind=2 ** 64 - 1),
    record(taken=2),
    record(taken=2 ** 64 - 1),
    record(size=0),
    record(size=4097),
    record(size=2 ** 64 - 1),
    record(address=END),
    record(address=END - 1, size=2),
    record(address=END - 4095, size=4096),
    record(address=2 ** 64 - 1),
    record(to=END),
    record(to=2 ** 64 - 1),
)

# Enough of everything that an effect of a refused run would show in what is told later.
EVERYTHING = (
    record(0x40, kind=FETCH),
    record(0x80, kind=READ),
    record(0xC0, kind=WRITE),
    record(0x10, 0x20, kind=BRANCH, taken=1),
    record(0x14, 0x30, kind=JUMP),
    record(0x18, 0x40, size=4, kind=CALL),
    record(0x1C, 0x1C, kind=RETURN),
)


class RightRecords(unittest.TestCase):
    def test_every_kind_with_lowest_and_highest(self):
        for kind in range(7):
            for one in (
                record(kind=kind, taken=0),
                record(kind=kind, taken=1),
                record(kind=kind, size=1),
                record(kind=kind, size=4096),
                record(END - 1, kind=kind, size=1),
                record(END - 4096, kind=kind, size=4096),
                record(kind=kind, to=END - 1),
            ):
                self.assertEqual(rows_of(PLAIN, run(one)), [[0], [0]], one)

    def test_no_record_at_all(self):
        rows = rows_of(PLAIN, run(), TOLD, run(), run())
        self.assertEqual(rows, [[0], [0], [20] + [0] * 20, [0], [0]])


class WrongRecords(unittest.TestCase):
    def test_each_wrong_record_alone(self):
        for one in WRONG:
            self.assertEqual(rows_of(PLAIN, run(one)), [[0], [-2]], one)

    def test_wrong_whatever_the_kind(self):
        for one in WRONG:
            address, to, size, kind, taken = one
            if kind <= RETURN:
                for other in range(7):
                    rows = rows_of(PLAIN, run((address, to, size, other, taken)))
                    self.assertEqual(rows, [[0], [-2]], (other, one))

    def test_the_first_wrong_one_is_named(self):
        right = record()
        for number in (0, 1, 2, 17):
            for one in WRONG:
                rows = rows_of(PLAIN, run(*[right] * number, one, right, record(kind=9)))
                self.assertEqual(rows, [[0], [-2 - number]])

    def test_the_last_one_of_many(self):
        rows = rows_of(PLAIN, run(*[record()] * 3179, record(size=0)))
        self.assertEqual(rows, [[0], [-2 - 3179]])

    def test_nothing_has_changed(self):
        caches = [cache(1, 2, 4, 3, ahead=1), cache(1, 2, 4, 0, ahead=1), cache(2, 2, 5, 3)]
        guess = guesses(4, 4, 4, 2, 1, 2, 4)
        begin = start_with(*caches, guess=guess)
        refused = run(*EVERYTHING, *EVERYTHING[::-1], record(kind=7))
        plain = rows_of(begin, run(*EVERYTHING), TOLD, run(*EVERYTHING), TOLD)
        mixed = rows_of(
            begin, refused, run(*EVERYTHING), refused, TOLD, refused, run(*EVERYTHING), refused, TOLD
        )
        self.assertEqual([row for row in mixed if row != [-2 - 14]], plain)
        self.assertEqual(len(mixed), len(plain) + 4)

    def test_nothing_is_counted_before_the_wrong_one(self):
        rows = rows_of(PLAIN, run(*EVERYTHING, record(size=0)), TOLD)
        self.assertEqual(rows[1:], [[-2 - 7], [20] + [0] * 20])


class HowManyRecords(unittest.TestCase):
    # So many are not handed in by the interface, but the promise names them.
    def test_65536_are_followed_and_one_more_is_refused(self):
        processor = Processor(2, settings(cache(), cache()))
        self.assertEqual(processor.run([0, 0, 1, READ, 0] * 65537), -1)
        self.assertEqual(processor.told(), [20] + [0] * 20)
        self.assertEqual(processor.run([0, 0, 1, READ, 0] * 65536), 0)
        self.assertEqual(processor.told()[7:9], [65535, 1])

    def test_too_many_comes_before_a_wrong_one(self):
        processor = Processor(2, settings(cache(), cache()))
        self.assertEqual(processor.run([0, 0, 1, 7, 0] * 65537), -1)
        self.assertEqual(processor.run([0, 0, 1, 7, 0] * 65536), -2)


if __name__ == "__main__":
    unittest.main()
