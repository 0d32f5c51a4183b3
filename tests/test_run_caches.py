import unittest

from tests.helper import (
    END, FETCH, READ, TOLD, WRITE, cache, counts_after, reads, record, rows_of, run, start_with, writes,
)

LAST_LINE = END - 16


def lines(*numbers, kind=READ):
    return [record(16 * number, kind=kind) for number in numbers]


# Each line is asked for on a processor of its own, so that asking doesn't change what is asked next.
def lines_there(one, records, asked):
    there = []
    for number in asked:
        rows = rows_of(start_with(cache(), one), run(*records), TOLD, run(record(16 * number)), TOLD)
        if rows[4][7] == rows[2][7] + 1:
            there.append(number)
    return there


class Counts(unittest.TestCase):
    def check(self, caches, records, **wanted):
        self.assertEqual(counts_after(caches, records), wanted)

    def check_second(self, one, records, **wanted):
        self.check([cache(), one], records, **wanted)


class WhichCache(Counts):
    def test_instructions_in_the_first(self):
        self.check([cache(), cache()], [record(5, kind=FETCH)] * 3, reads_found1=2, reads_missed1=1, memory_reads=1)

    def test_data_in_the_second(self):
        self.check([cache(), cache()], [record(5, kind=READ)] * 3, reads_found2=2, reads_missed2=1, memory_reads=1)
        self.check([cache(), cache()], [record(5, kind=WRITE)] * 3, writes_found2=2, writes_missed2=1, memory_reads=1)

    def test_they_hold_lines_apart(self):
        both = [record(0, kind=FETCH), record(0, kind=READ)]
        self.check([cache(), cache()], both, reads_missed1=1, reads_missed2=1, memory_reads=2)

    def test_the_third_lies_behind_both(self):
        both = [record(0, kind=FETCH), record(0, kind=READ)]
        self.check(
            [cache()] * 3, both, reads_missed1=1, reads_missed2=1, reads_found3=1, reads_missed3=1, memory_reads=1
        )

    def test_the_fourth_lies_behind_the_third(self):
        self.check(
            [cache(), cache(), cache(), cache(ways=2)],
            lines(0, 1, 0),
            reads_missed2=3, reads_missed3=3, reads_found4=1, reads_missed4=2, memory_reads=2,
        )

    def test_runs_go_on_where_the_last_one_ended(self):
        rows = rows_of(start_with(cache(), cache()), run(*reads(0)), run(*reads(1)), TOLD)
        self.assertEqual(rows[3][7:9], [1, 1])


class LinesTouched(Counts):
    def check_lines(self, wanted, line, address, size):
        with self.subTest(line=line, address=address, size=size):
            for kind in (FETCH, READ):
                number = kind + 1
                told = counts_after([cache(line=line)] * 2, [record(address, size=size, kind=kind)])
                self.assertEqual(told, {f"reads_missed{number}": wanted, "memory_reads": wanted})

    def test_within_and_over_an_edge(self):
        self.check_lines(1, 4, 15, 1)
        self.check_lines(2, 4, 15, 2)
        self.check_lines(1, 4, 16, 16)
        self.check_lines(2, 4, 16, 17)
        self.check_lines(3, 4, 15, 18)

    def test_the_longest(self):
        self.check_lines(256, 4, 0, 4096)
        self.check_lines(257, 4, 1, 4096)
        self.check_lines(32, 7, 0, 4096)
        self.check_lines(33, 7, 127, 4096)

    def test_at_the_highest_address(self):
        self.check_lines(1, 4, END - 1, 1)
        self.check_lines(256, 4, END - 4096, 4096)

    def test_each_length_of_a_line(self):
        for line in (4, 5, 6, 7):
            self.check_lines(1, line, 0, 2 ** line)
            self.check_lines(2, line, 0, 2 ** line + 1)
            self.check_lines(2, line, 2 ** line - 1, 2)

    def test_written_lines(self):
        self.check_second(cache(ways=4), [record(8, size=32, kind=WRITE)], writes_missed2=3, memory_reads=3)

    def test_from_the_first_on(self):
        touched = [record(0, size=32)]
        self.assertEqual(lines_there(cache(), touched, range(3)), [1])
        self.assertEqual(lines_there(cache(ways=2), [*touched, *lines(2)], range(4)), [1, 2])


class Sets(Counts):
    def test_the_bits_above_the_line(self):
        self.assertEqual(lines_there(cache(sets=1), lines(0, 1), range(4)), [0, 1])
        self.assertEqual(lines_there(cache(sets=1), lines(0, 2), range(4)), [2])
        self.assertEqual(lines_there(cache(sets=1), lines(0, 1, 2, 5), range(6)), [2, 5])

    def test_the_most_sets(self):
        self.check_second(cache(sets=12), lines(0, 4095, 0), reads_found2=1, reads_missed2=2, memory_reads=2)
        self.check_second(cache(sets=12), lines(0, 4096, 0), reads_missed2=3, memory_reads=3)

    def test_the_highest_bits_tell_lines_apart(self):
        self.check_second(cache(), reads(0, END // 2, 0), reads_missed2=3, memory_reads=3)
        self.check_second(cache(sets=3, ways=2), reads(0, END // 2, 0), reads_found2=1, reads_missed2=2, memory_reads=2)

    def test_lines_of_another_length(self):
        records = reads(0, 127, 128, 256, 0)
        self.check_second(cache(sets=1, line=7), records, reads_found2=1, reads_missed2=4, memory_reads=4)


class Policies(unittest.TestCase):
    def check(self, policy, ways, read, wanted):
        with self.subTest(policy=policy, ways=ways, read=read):
            there = lines_there(cache(ways=ways, policy=policy), lines(*read), range(32))
            self.assertEqual(there, sorted(wanted))

    def test_empty_ways_come_first(self):
        for policy in range(4):
            self.check(policy, 4, (7, 7, 3, 7, 1), (7, 3, 1))
            self.check(policy, 4, (7, 7, 3, 7, 1, 2), (7, 3, 1, 2))

    def test_one_way(self):
        for policy in range(4):
            self.check(policy, 1, (0,), (0,))
            self.check(policy, 1, (0, 1, 2), (2,))

    def test_used_longest_ago(self):
        self.check(0, 2, (0, 1, 2), (1, 2))
        self.check(0, 2, (0, 1, 0, 2), (0, 2))
        self.check(0, 3, (0, 1, 2, 1, 0, 3), (0, 1, 3))
        self.check(0, 3, (0, 1, 2, 1, 0, 3, 4), (0, 3, 4))
        self.check(0, 16, (*range(16), 0, 1, 16, 17), (0, 1, *range(4, 18)))

    def test_filled_longest_ago(self):
        self.check(1, 2, (0, 1, 2), (1, 2))
        self.check(1, 2, (0, 1, 0, 2), (1, 2))
        self.check(1, 3, (0, 1, 2, 1, 0, 3), (1, 2, 3))
        self.check(1, 3, (0, 1, 2, 1, 0, 3, 1, 4, 0), (3, 4, 0))

    def test_tree_of_two(self):
        self.check(2, 2, (0, 1, 2), (1, 2))
        self.check(2, 2, (0, 1, 0, 2), (0, 2))

    def test_tree_of_four(self):
        self.check(2, 4, (0, 1, 2, 3, 4), (1, 2, 3, 4))
        self.check(2, 4, (0, 1, 2, 3, 4, 5), (1, 3, 4, 5))
        self.check(2, 4, (0, 1, 2, 3, 4, 5, 6), (3, 4, 5, 6))
        self.check(2, 4, (0, 1, 2, 3, 4, 5, 6, 7), (4, 5, 6, 7))
        self.check(2, 4, (0, 1, 2, 3, 0, 4), (0, 1, 3, 4))

    def test_tree_of_eight(self):
        put_away = (0, 4, 2, 6, 1, 5, 3, 7)
        for count in range(9):
            there = [line for line in range(8 + count) if line not in put_away[:count]]
            self.check(2, 8, range(8 + count), there)

    def test_tree_of_sixteen(self):
        put_away = (0, 8, 4, 12, 2, 10, 6, 14, 1)
        for count in range(10):
            there = [line for line in range(16 + count) if line not in put_away[:count]]
            self.check(2, 16, range(16 + count), there)

    # ACE1 goes on to E270, 7138, 389C, 1C4E, 0E27, B313: modulo 3 these are 2, 1, 2, 1, 2, 0.
    def test_chance_of_three(self):
        self.check(3, 3, range(4), (0, 1, 3))
        self.check(3, 3, range(5), (0, 3, 4))
        self.check(3, 3, range(6), (0, 4, 5))
        self.check(3, 3, range(7), (0, 5, 6))
        self.check(3, 3, range(8), (0, 6, 7))
        self.check(3, 3, range(9), (6, 7, 8))

    # The same modulo 4: 0, 0, 0, 2, 3, 3.
    def test_chance_of_four(self):
        self.check(3, 4, range(7), (1, 2, 3, 6))
        self.check(3, 4, range(8), (1, 3, 6, 7))
        self.check(3, 4, range(9), (1, 6, 7, 8))
        self.check(3, 4, range(10), (1, 6, 7, 9))

    def test_found_lines_draw_nothing(self):
        self.check(3, 3, (0, 1, 2, 2, 1, 0, 3), (0, 1, 3))

    def test_sets_have_orders_of_their_own(self):
        for policy in (0, 1, 2):
            one = cache(sets=1, ways=2, policy=policy)
            self.assertEqual(lines_there(one, lines(0, 2, 1, 3, 5, 4), range(6)), [2, 3, 4, 5])


class OneChanceForAll(Counts):
    def test_first_and_second(self):
        pair = [cache(ways=3, policy=3)] * 2
        filled = [*lines(0, 1, 2, kind=FETCH), *lines(0, 1, 2), *lines(3, kind=FETCH), *lines(3)]
        rest = {"reads_missed1": 4, "memory_reads": 8}
        self.check(pair, [*filled, *lines(2)], reads_missed2=4, reads_found2=1, **rest)
        self.check(pair, [*filled, *lines(1)], reads_missed2=5, **{**rest, "memory_reads": 9})

    def test_one_way_draws_too(self):
        pair = [cache(ways=3, policy=3), cache(policy=3)]
        filled = [*lines(0, 1, 2, kind=FETCH), *lines(0, 1), *lines(3, kind=FETCH)]
        rest = {"reads_missed2": 2, "memory_reads": 6}
        self.check(pair, [*filled, *lines(2, kind=FETCH)], reads_missed1=4, reads_found1=1, **rest)
        self.check(pair, [*filled, *lines(1, kind=FETCH)], reads_missed1=5, **{**rest, "memory_reads": 7})

    def test_drawn_before_what_lies_behind(self):
        caches = [cache(), cache(ways=3, policy=3), cache(ways=3, policy=3)]
        rest = {"reads_missed2": 4, "reads_missed1": 1}
        told = counts_after(caches, [*lines(0, 1, 2, 3), *lines(2, kind=FETCH)])
        self.assertEqual(told, {"reads_missed3": 4, "reads_found3": 1, "memory_reads": 4, **rest})
        told = counts_after(caches, [*lines(0, 1, 2, 3), *lines(1, kind=FETCH)])
        self.assertEqual(told, {"reads_missed3": 5, "memory_reads": 5, **rest})


class WritesBack(Counts):
    def test_a_missed_write_is_filled(self):
        self.check_second(cache(), [*writes(0), *reads(0)], writes_missed2=1, reads_found2=1, memory_reads=1)

    def test_a_marked_line_is_put_away(self):
        self.check_second(
            cache(), [*writes(0), *reads(16)],
            writes_missed2=1, reads_missed2=1, put_away2=1, memory_reads=2, memory_writes=1,
        )

    def test_a_found_line_is_marked(self):
        self.check_second(
            cache(), [*reads(0), *writes(0, 0), *reads(16)],
            writes_found2=2, reads_missed2=2, put_away2=1, memory_reads=2, memory_writes=1,
        )

    def test_an_unmarked_line_is_not_counted(self):
        self.check_second(cache(), reads(0, 16), reads_missed2=2, memory_reads=2)

    def test_reading_takes_no_mark_away(self):
        self.check_second(
            cache(), [*writes(0), *reads(0, 16)],
            writes_missed2=1, reads_found2=1, reads_missed2=1, put_away2=1, memory_reads=2, memory_writes=1,
        )

    def test_the_mark_goes_with_the_line(self):
        self.check_second(
            cache(), [*writes(0), *reads(16, 0, 16)],
            writes_missed2=1, reads_missed2=3, put_away2=1, memory_reads=4, memory_writes=1,
        )

    def test_one_mark_for_each_way(self):
        self.check_second(
            cache(ways=2), [*writes(0), *reads(16, 32, 48)],
            writes_missed2=1, reads_missed2=3, put_away2=1, memory_reads=4, memory_writes=1,
        )
        self.check_second(
            cache(ways=2), [*reads(0), *writes(16), *reads(32)],
            writes_missed2=1, reads_missed2=2, memory_reads=3,
        )

    def test_a_written_line_is_used(self):
        self.assertEqual(lines_there(cache(ways=2), [*lines(0, 1), *lines(0, kind=WRITE), *lines(2)], range(3)), [0, 2])

    def test_written_behind_ahead_of_being_read(self):
        self.check(
            [cache(), cache(), cache()], writes(0, 16),
            writes_missed2=2, put_away2=1, writes_found3=1, reads_missed3=2, put_away3=1,
            memory_reads=2, memory_writes=1,
        )

    def test_the_address_of_what_is_put_away(self):
        third = cache(sets=4, line=5)
        self.check(
            [cache(), cache(), third], [*writes(0x1230), *reads(0x4560)],
            writes_missed2=1, reads_missed2=1, put_away2=1, reads_missed3=2, writes_found3=1, memory_reads=2,
        )

    def test_missed_behind_it_is_filled_there(self):
        # The first takes line 0 out of the third, so that it isn't there when it's written back.
        self.check(
            [cache(), cache(), cache()], [*writes(0), record(16, kind=FETCH), *reads(32)],
            writes_missed2=1, reads_missed1=1, reads_missed2=1, put_away2=1,
            writes_missed3=1, reads_missed3=3, put_away3=1, memory_reads=4, memory_writes=1,
        )


class WritesThrough(Counts):
    def test_a_missed_write_goes_behind_and_that_is_all(self):
        self.check_second(cache(through=1), writes(0, 0), writes_missed2=2, memory_writes=2)
        self.check_second(cache(through=1, ahead=1), writes(0), writes_missed2=1, memory_writes=1)

    def test_it_is_not_filled(self):
        self.check_second(
            cache(through=1), [*writes(0), *reads(0)],
            writes_missed2=1, reads_missed2=1, memory_reads=1, memory_writes=1,
        )

    def test_it_puts_nothing_away(self):
        self.check_second(
            cache(through=1), [*reads(0), *writes(16), *reads(0)],
            writes_missed2=1, reads_missed2=1, reads_found2=1, memory_reads=1, memory_writes=1,
        )

    def test_a_found_write_goes_behind_unmarked(self):
        self.check_second(
            cache(through=1), [*reads(0), *writes(0), *reads(16)],
            reads_missed2=2, writes_found2=1, memory_reads=2, memory_writes=1,
        )

    def test_a_found_line_is_used(self):
        one = cache(ways=2, through=1)
        self.assertEqual(lines_there(one, [*lines(0, 1), *lines(0, kind=WRITE), *lines(2)], range(3)), [0, 2])

    def test_a_missed_write_draws_nothing(self):
        one = cache(ways=3, policy=3, through=1)
        records = [*lines(0, 1, 2), *lines(9, kind=WRITE), *lines(3)]
        self.assertEqual(lines_there(one, records, range(10)), [0, 1, 3])

    def test_into_a_cache_that_does_not(self):
        self.check(
            [cache(), cache(through=1), cache()], [*writes(0, 0), record(16, kind=FETCH)],
            writes_missed2=2, writes_missed3=1, writes_found3=1, reads_missed1=1, reads_missed3=1,
            put_away3=1, memory_reads=2, memory_writes=1,
        )

    def test_through_all(self):
        through = cache(through=1)
        self.check(
            [through] * 4, [*writes(0), *reads(0), *writes(0)],
            writes_missed2=1, writes_missed3=1, writes_missed4=1, writes_found2=1, writes_found3=1, writes_found4=1,
            reads_missed2=1, reads_missed3=1, reads_missed4=1, memory_reads=1, memory_writes=2,
        )


class NextLine(Counts):
    def test_fetched_when_one_is_missed(self):
        self.check_second(cache(ways=4, ahead=1), lines(0), reads_missed2=1, ahead2=1, memory_reads=2)
        self.check(
            [cache(ways=4, ahead=1), cache()], lines(0, kind=FETCH), reads_missed1=1, ahead1=1, memory_reads=2
        )

    def test_not_fetched_when_one_is_found(self):
        self.check_second(
            cache(ways=4, ahead=1), lines(0, 1, 1, 0), reads_missed2=1, reads_found2=3, ahead2=1, memory_reads=2
        )

    def test_only_one_is_fetched(self):
        self.assertEqual(lines_there(cache(ways=8, ahead=1), lines(3), range(8)), [3, 4])

    def test_not_fetched_when_it_is_there(self):
        self.check_second(cache(ways=4, ahead=1), lines(1, 0), reads_missed2=2, ahead2=1, memory_reads=3)

    def test_what_is_there_is_not_used(self):
        one = cache(ways=3, ahead=1)
        self.assertEqual(lines_there(one, [*lines(1, 0), record(LAST_LINE)], range(4)), [0, 2])

    def test_what_is_fetched_is_used(self):
        one = cache(ways=3, ahead=1)
        self.assertEqual(lines_there(one, [*lines(5, 6), *lines(5), record(LAST_LINE)], range(8)), [5, 6])
        self.assertEqual(lines_there(one, [*lines(5), record(LAST_LINE), *lines(9)], range(12)), [9, 10])

    def test_missed_writes_fetch_too_but_mark_one_alone(self):
        self.check_second(cache(ways=2, ahead=1), lines(0, kind=WRITE), writes_missed2=1, ahead2=1, memory_reads=2)
        self.check_second(
            cache(ways=2, ahead=1), [*lines(0, kind=WRITE), *lines(4)],
            writes_missed2=1, reads_missed2=1, ahead2=2, put_away2=1, memory_reads=4, memory_writes=1,
        )

    def test_it_may_put_the_missed_one_away(self):
        self.check_second(
            cache(ahead=1), lines(0, kind=WRITE),
            writes_missed2=1, ahead2=1, put_away2=1, memory_reads=2, memory_writes=1,
        )
        self.assertEqual(lines_there(cache(ahead=1), lines(0), range(3)), [1])

    def test_it_lies_in_the_next_set(self):
        self.assertEqual(lines_there(cache(sets=1, ahead=1), lines(0), range(4)), [0, 1])
        self.assertEqual(lines_there(cache(sets=1, ahead=1), lines(1), range(4)), [1, 2])

    def test_several_lines_touched(self):
        touched = [record(0, size=48)]
        self.check_second(
            cache(ways=8, ahead=1), touched, reads_missed2=2, reads_found2=1, ahead2=2, memory_reads=4
        )

    def test_not_at_the_end_of_addresses(self):
        for line in (4, 5, 6, 7):
            one = cache(ways=4, line=line, ahead=1)
            last = END - 2 ** line
            self.check_second(one, reads(last), reads_missed2=1, memory_reads=1)
            self.check_second(one, reads(END - 1), reads_missed2=1, memory_reads=1)
            self.check_second(one, reads(last - 1, last), reads_missed2=1, reads_found2=1, ahead2=1, memory_reads=2)

    def test_behind(self):
        third = cache(ways=4, line=6, ahead=1)
        self.check(
            [cache(), cache(), third], reads(0, 64),
            reads_missed2=2, reads_missed3=1, reads_found3=1, ahead3=1, memory_reads=2,
        )
        self.check([cache(), cache(), third], reads(END - 64), reads_missed2=1, reads_missed3=1, memory_reads=1)

    def test_read_behind_like_any_other(self):
        self.check(
            [cache(), cache(ways=2, ahead=1), cache(line=5)], reads(0),
            reads_missed2=1, ahead2=1, reads_missed3=1, reads_found3=1, memory_reads=1,
        )
        self.check(
            [cache(), cache(ways=4, ahead=1), cache(ways=4, ahead=1)], reads(0),
            reads_missed2=1, ahead2=1, reads_missed3=1, reads_found3=1, ahead3=1, memory_reads=2,
        )

    def test_for_what_is_written_back(self):
        self.check(
            [cache(), cache(), cache(ahead=1)], [*writes(0), *reads(160)],
            writes_missed2=1, reads_missed2=1, put_away2=1,
            reads_missed3=2, writes_missed3=1, ahead3=3, put_away3=1, memory_reads=6, memory_writes=1,
        )


class LongerLinesBehind(Counts):
    def test_one_line_behind_for_four(self):
        self.check(
            [cache(), cache(), cache(line=6)], reads(0, 16, 32, 48, 64),
            reads_missed2=5, reads_missed3=2, reads_found3=3, memory_reads=2,
        )

    def test_second_shorter_than_first(self):
        self.check(
            [cache(line=6), cache(line=4), cache(line=6)], [record(32, kind=FETCH), *reads(48, 0)],
            reads_missed1=1, reads_missed2=2, reads_missed3=1, reads_found3=2, memory_reads=1,
        )


if __name__ == "__main__":
    unittest.main()
