import unittest

from tests.helper import TOLD, cache, guesses, rows_of, settings, start

CACHE_FIELDS = (("sets", 0, 12), ("ways", 1, 16), ("line", 4, 7), ("policy", 0, 3), ("through", 0, 1), ("ahead", 0, 1))
GUESS_FIELDS = (
    ("way", 0, 4),
    ("size", 0, 14),
    ("history", 0, 14),
    ("places", 0, 10),
    ("target_sets", 0, 10),
    ("target_ways", 1, 8),
    ("returns", 0, 64),
)


def started(n, numbers):
    rows = rows_of(start(n, numbers))
    assert len(rows) == 1 and len(rows[0]) == 1, rows
    return rows[0][0]


# The third and fourth have the longest lines, so that only the cache that is looked at can be wrong.
def caches_with(n, k, **fields):
    each = [cache(), cache(), cache(line=7), cache(line=7)][:n]
    each[k] = cache(**{"line": 4 if k < 2 else 7, **fields})
    return each


class NumberOfCaches(unittest.TestCase):
    def test_two_three_and_four(self):
        for n in (2, 3, 4):
            self.assertEqual(started(n, settings(*[cache()] * n)), 0)

    def test_others_are_refused_with_minus_1(self):
        for n in (-2147483648, -2, -1, 0, 1, 5, 6, 2147483647):
            self.assertEqual(started(n, []), -1)

    def test_n_comes_before_the_settings(self):
        self.assertEqual(started(1, []), -1)
        self.assertEqual(started(2, settings(cache(ways=0), cache())), -2)

    def test_a_refusal_is_answered_alone(self):
        self.assertEqual(rows_of(start(5, [])), [[-1]])
        self.assertEqual(rows_of(start(2, [4294967295] * 19)), [[-2]])
        self.assertEqual(rows_of(start(2, [0] * 19)), [[-2]])

    def test_all_is_empty(self):
        for n in (2, 3, 4):
            rows = rows_of(start(n, settings(*[cache()] * n)), TOLD)
            self.assertEqual(rows, [[0], [6 * n + 8] + [0] * (6 * n + 8)])


class CacheSettings(unittest.TestCase):
    def check(self, wanted, n, k, **fields):
        with self.subTest(n=n, k=k, **fields):
            self.assertEqual(started(n, settings(*caches_with(n, k, **fields))), wanted)

    def test_lowest_and_highest(self):
        for n in (2, 3, 4):
            for k in range(n):
                for name, lowest, highest in CACHE_FIELDS:
                    # The lowest line is only free for the first two: the others are bound to those before.
                    if name != "line" or k < 2:
                        self.check(0, n, k, **{name: lowest})
                    if name != "line" or k >= 2 or n == 2:
                        self.check(0, n, k, **{name: highest})

    def test_one_beyond_and_far_beyond(self):
        for n in (2, 3, 4):
            for k in range(n):
                for name, lowest, highest in CACHE_FIELDS:
                    self.check(-2, n, k, **{name: highest + 1})
                    self.check(-2, n, k, **{name: 4294967295})
                    if lowest > 0:
                        self.check(-2, n, k, **{name: lowest - 1})

    def test_lines_below_the_lowest_everywhere(self):
        self.assertEqual(started(4, settings(*[cache(line=4)] * 4)), 0)
        self.assertEqual(started(4, settings(*[cache(line=3)] * 4)), -2)
        self.assertEqual(started(4, settings(*[cache(line=7)] * 4)), 0)
        self.assertEqual(started(4, settings(*[cache(line=8)] * 4)), -2)

    def test_the_tree_wants_a_power_of_two(self):
        for ways in range(1, 17):
            wanted = 0 if ways in (1, 2, 4, 8, 16) else -2
            for n in (2, 3, 4):
                for k in range(n):
                    self.check(wanted, n, k, policy=2, ways=ways)

    def test_other_policies_take_all_ways(self):
        for policy in (0, 1, 3):
            for ways in range(1, 17):
                self.check(0, 3, 2, policy=policy, ways=ways)


class LineLengths(unittest.TestCase):
    def check(self, wanted, *lines):
        with self.subTest(lines=lines):
            each = [cache(line=line) for line in lines]
            self.assertEqual(started(len(lines), settings(*each)), wanted)

    def test_first_and_second_are_free(self):
        self.check(0, 7, 4)
        self.check(0, 4, 7)
        self.check(0, 7, 4, 7)

    def test_third_against_both(self):
        self.check(0, 5, 5, 5)
        self.check(0, 5, 4, 6)
        self.check(-2, 6, 4, 5)
        self.check(-2, 4, 6, 5)

    def test_fourth_against_all(self):
        self.check(0, 4, 5, 6, 7)
        self.check(0, 5, 4, 6, 6)
        self.check(-2, 4, 4, 6, 5)
        self.check(-2, 4, 4, 7, 6)
        self.check(-2, 6, 4, 5, 6)


class GuessSettings(unittest.TestCase):
    def check(self, wanted, **fields):
        for n in (2, 3, 4):
            with self.subTest(n=n, **fields):
                numbers = settings(*[cache()] * n, guess=guesses(**fields))
                self.assertEqual(started(n, numbers), wanted)

    def test_lowest_and_highest(self):
        for name, lowest, highest in GUESS_FIELDS:
            self.check(0, **{name: lowest})
            self.check(0, **{name: highest})

    def test_one_beyond_and_far_beyond(self):
        for name, lowest, highest in GUESS_FIELDS:
            self.check(-2, **{name: highest + 1})
            self.check(-2, **{name: 4294967295})
            if lowest > 0:
                self.check(-2, **{name: lowest - 1})

    def test_history_against_the_size_with_ways_2_and_4(self):
        for way in (2, 4):
            for size in (0, 1, 7, 14):
                self.check(0, way=way, size=size, history=size)
                if size < 14:
                    self.check(-2, way=way, size=size, history=size + 1)
            self.check(0, way=way, size=14, history=0)

    def test_other_ways_take_any_history(self):
        for way in (0, 1, 3):
            self.check(0, way=way, size=0, history=14)


if __name__ == "__main__":
    unittest.main()
