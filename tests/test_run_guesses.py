import unittest

from tests.helper import (
    BRANCH, CALL, END, JUMP, RETURN, branches, cache, counts_after, guesses, record,
)

PAIR = [cache(), cache()]


def told_after(records, **fields):
    return counts_after(PAIR, records, guess=guesses(**fields))


def jump(address, to=0):
    return record(address, to, kind=JUMP)


def call(address, size=4, to=0):
    return record(address, to, size, CALL)


def return_to(to):
    return record(0x7777, to, 3, RETURN)


class BranchCounts(unittest.TestCase):
    def check_wrong(self, wanted, records, **fields):
        with self.subTest(**fields):
            told = told_after(records, **fields)
            self.assertEqual(told.get("branches", 0), len(records))
            self.assertEqual(told.get("wrong", 0), wanted)


class NeverTaken(BranchCounts):
    def test_wrong_when_taken(self):
        self.check_wrong(3, branches("1101"), way=0)
        self.check_wrong(0, branches("0000"), way=0)
        self.check_wrong(9, branches("111111111"), way=0, size=14, history=14)

    def test_what_is_told(self):
        told = told_after(branches("1101"), way=0)
        self.assertEqual(told, {"branches": 4, "wrong": 3, "jumps": 3, "unknown": 1})


class ByPlace(BranchCounts):
    def test_up_and_down(self):
        self.check_wrong(1, branches("1"), way=1)
        self.check_wrong(0, branches("0"), way=1)
        self.check_wrong(1, branches("11"), way=1)
        self.check_wrong(2, branches("10"), way=1)
        self.check_wrong(5, branches("1110000111"), way=1)

    def test_between_0_and_3(self):
        self.check_wrong(3, branches("1" * 10 + "000"), way=1)
        self.check_wrong(2, branches("0" * 10 + "111"), way=1)

    def test_the_address_by_4(self):
        for address in (1, 2, 3):
            self.check_wrong(1, branches("1") + branches("1", address), way=1, size=14)
        self.check_wrong(2, branches("1") + branches("1", 4), way=1, size=14)

    def test_modulo_the_size(self):
        for size in (0, 1, 5, 14):
            same = 4 << size
            self.check_wrong(1, branches("1", 0) + branches("1", same), way=1, size=size)
            if size > 0:
                self.check_wrong(2, branches("1", 0) + branches("1", same // 2), way=1, size=size)
        self.check_wrong(2, branches("11", END - 1) + branches("1", 0), way=1, size=14)
        self.check_wrong(1, branches("11", END - 1) + branches("1", 4 * (2 ** 14 - 1)), way=1, size=14)

    def test_history_does_nothing(self):
        self.check_wrong(5, branches("1110000111"), way=1, size=3, history=14)


class ByCommonHistory(BranchCounts):
    def test_what_alternates_is_learnt(self):
        self.check_wrong(2, branches("10101010"), way=2, size=2, history=2)

    def test_without_history_as_by_place(self):
        self.check_wrong(5, branches("1110000111"), way=2, size=2, history=0)
        self.check_wrong(1, branches("1", 0) + branches("1", 16), way=2, size=2, history=0)

    def test_xor(self):
        self.check_wrong(1, branches("1", 0) + branches("1", 4), way=2, size=2, history=2)
        self.check_wrong(2, branches("1", 0) + branches("1", 0), way=2, size=2, history=2)

    def test_the_counter_that_guessed_learns(self):
        # All three are guessed by counter 0: 0 xor 0, 1 xor 1, 2 xor 2.
        records = branches("1", 0) + branches("0", 4) + branches("0", 8)
        self.check_wrong(2, records, way=2, size=2, history=2)

    def test_modulo_2_to_the_history(self):
        self.check_wrong(2, branches("1111"), way=2, size=2, history=1)
        self.check_wrong(3, branches("1111"), way=2, size=2, history=2)
        self.check_wrong(14, branches("1" * 14), way=2, size=14, history=14)
        self.check_wrong(15, branches("1" * 20), way=2, size=14, history=14)

    def test_modulo_the_size(self):
        self.check_wrong(1, branches("1", 0) + branches("1", 8 + 4), way=2, size=1, history=1)

    def test_others_are_in_the_history(self):
        # The one not taken makes the history 2, so the last is guessed by counter 2 xor 2, which the first moved.
        self.check_wrong(1, branches("1", 0) + branches("0", 8) + branches("1", 8), way=2, size=2, history=2)


class ByOwnHistory(BranchCounts):
    def test_what_alternates_is_learnt(self):
        self.check_wrong(2, branches("10101010"), way=3, history=2)

    def test_the_counters_are_shared(self):
        self.check_wrong(2, branches("10101") + branches("101", 4), way=3, history=2, places=1)

    def test_modulo_the_places(self):
        self.check_wrong(3, branches("10101") + branches("1", 8), way=3, history=2, places=1)
        self.check_wrong(2, branches("10101") + branches("1", 8), way=3, history=2, places=2)
        self.check_wrong(3, branches("10101") + branches("1", 4096), way=3, history=2, places=10)
        self.check_wrong(2, branches("10101") + branches("1", 2048), way=3, history=2, places=10)
        self.check_wrong(3, branches("10101") + branches("1", 4), way=3, history=2, places=0)

    def test_the_size_does_nothing(self):
        self.check_wrong(15, branches("1" * 20), way=3, size=0, history=14)
        self.check_wrong(3, branches("1" * 20), way=3, size=14, history=2)

    def test_without_history_one_counter(self):
        self.check_wrong(5, branches("1110000111"), way=3, size=2, history=0, places=3)
        self.check_wrong(1, branches("1", 0) + branches("1", 4), way=3, size=2, history=0, places=3)

    def test_the_counter_of_the_history_before(self):
        # "11" by a history of one bit: the second is guessed by counter 1, which the first has not moved.
        self.check_wrong(2, branches("11"), way=3, history=1)
        self.check_wrong(2, branches("111"), way=3, history=1)


class ByChoice(BranchCounts):
    def test_at_first_by_place(self):
        self.check_wrong(1, branches("11"), way=4, size=2, history=2)
        self.check_wrong(2, branches("10"), way=4, size=2, history=2)

    def test_it_goes_to_the_history(self):
        self.check_wrong(3, branches("10101010"), way=4, size=2, history=2)

    def test_it_goes_down_too(self):
        self.check_wrong(5, branches("111010101010"), way=4, size=2, history=2)

    def test_both_learn_whichever_is_asked(self):
        self.check_wrong(3, branches("1010" * 8), way=4, size=2, history=2)

    def test_without_history_both_say_the_same(self):
        self.check_wrong(5, branches("1110000111"), way=4, size=0, history=0)

    def test_one_choice_for_each_place(self):
        # Place 0 has gone over to the history; place 5, whose counters are new, still goes by its own counter.
        learnt = branches("10101010")
        self.check_wrong(4, learnt + branches("11", 4 * 4 + 4), way=4, size=3, history=2)


class Targets(unittest.TestCase):
    def check(self, unknown, records, **fields):
        told = told_after(records, **fields)
        wanted = {"jumps": len(records), "unknown": unknown}
        self.assertEqual(told, {name: count for name, count in wanted.items() if count})

    def test_known_the_second_time(self):
        self.check(1, [jump(0, 100)])
        self.check(1, [jump(0, 100)] * 5)

    def test_another_target(self):
        self.check(2, [jump(0, 100), jump(0, 200)])
        self.check(2, [jump(0, 100), jump(0, 200), jump(0, 200)])
        self.check(3, [jump(0, 100), jump(0, 200), jump(0, 100)])
        self.check(3, [jump(0, 100), jump(0, 200), jump(0, 100)], target_ways=8)

    def test_what_is_over_the_ways_goes(self):
        self.check(4, [jump(0), jump(4), jump(8), jump(0)], target_ways=2)
        self.check(3, [jump(0), jump(4), jump(8), jump(0)], target_ways=3)
        nine = [jump(4 * k) for k in range(9)]
        self.check(9, [*nine, *nine[:0:-1]], target_ways=8)
        self.check(10, [*nine, nine[0]], target_ways=8)

    def test_the_latest_stay(self):
        self.check(3, [jump(0), jump(4), jump(0), jump(8), jump(0)], target_ways=2)
        self.check(4, [jump(0), jump(4), jump(0), jump(8), jump(4)], target_ways=2)

    def test_with_another_target_it_is_the_latest_too(self):
        records = [jump(0, 1), jump(4, 1), jump(0, 2), jump(8, 1)]
        self.check(4, [*records, jump(0, 2)], target_ways=2)
        self.check(5, [*records, jump(4, 1)], target_ways=2)

    def test_an_address_takes_one_way(self):
        self.check(3, [jump(0, 1), jump(4, 1), jump(4, 2), jump(0, 1)], target_ways=2)

    def test_sets(self):
        self.check(2, [jump(0), jump(4), jump(0)], target_sets=1)
        self.check(3, [jump(0), jump(8), jump(0)], target_sets=1)
        self.check(3, [jump(0), jump(4), jump(0)], target_sets=0)
        self.check(2, [jump(0), jump(2048), jump(0)], target_sets=10)
        self.check(3, [jump(0), jump(4096), jump(0)], target_sets=10)

    def test_addresses_of_one_place_are_told_apart(self):
        self.check(2, [jump(0, 5), jump(1, 5), jump(0, 5), jump(1, 5)], target_ways=2)
        self.check(4, [jump(0, 5), jump(1, 5), jump(0, 5), jump(1, 5)], target_ways=1, target_sets=10)

    def test_a_taken_branch_is_a_jump(self):
        taken = record(0, 100, kind=BRANCH, taken=1)
        told = told_after([taken, jump(0, 100), taken])
        self.assertEqual(told, {"branches": 2, "wrong": 2, "jumps": 3, "unknown": 1})

    def test_one_not_taken_is_none(self):
        past = record(0, 100, kind=BRANCH, taken=0)
        told = told_after([past, jump(0, 100), record(0, 200, kind=BRANCH), jump(0, 100)])
        self.assertEqual(told, {"branches": 2, "jumps": 2, "unknown": 1})

    def test_taken_says_nothing_of_other_kinds(self):
        for taken in (0, 1):
            self.check(1, [record(0, 100, kind=JUMP, taken=taken), record(0, 100, kind=CALL, taken=taken)])

    def test_a_call_is_a_jump(self):
        self.check(1, [call(0, to=100), jump(0, 100)])


class Returns(unittest.TestCase):
    def check(self, lost, records, **fields):
        told = told_after(records, **{"target_ways": 1, **fields})
        self.assertEqual(told.get("returns", 0), sum(one[3] == RETURN for one in records))
        self.assertEqual(told.get("jumps", 0), sum(one[3] == CALL for one in records))
        self.assertEqual(told.get("lost", 0), lost)

    def test_to_behind_the_call(self):
        self.check(0, [call(0x100, 4), return_to(0x104)], returns=1)
        self.check(0, [call(0x100, 4096), return_to(0x1100)], returns=1)
        for to in (0x100, 0x103, 0x105, 4, 0):
            self.check(1, [call(0x100, 4), return_to(to)], returns=1)

    def test_none_is_kept(self):
        self.check(1, [return_to(0)], returns=4)
        self.check(1, [call(0x100), return_to(0x104), return_to(0x104)], returns=4)

    def test_no_returns_kept(self):
        self.check(1, [call(0x100), return_to(0x104)], returns=0)
        self.check(2, [call(0x100), return_to(0x104), call(0x200), return_to(0x204)], returns=0)

    def test_the_latest_first(self):
        self.check(0, [call(0x100), call(0x200, 2), return_to(0x202), return_to(0x104)], returns=2)
        self.check(2, [call(0x100), call(0x200, 2), return_to(0x104), return_to(0x202)], returns=2)

    def test_a_lost_one_is_taken_too(self):
        self.check(1, [call(0x100), call(0x200), return_to(0x104), return_to(0x104)], returns=2)

    def test_what_is_over_goes(self):
        calls = [call(0x100), call(0x200), call(0x300)]
        back = [return_to(0x304), return_to(0x204), return_to(0x104)]
        self.check(0, calls + back, returns=3)
        self.check(1, calls + back, returns=2)
        self.check(2, calls + back, returns=1)
        self.check(3, calls + back, returns=0)

    def test_sixty_four(self):
        calls = [call(16 * k) for k in range(65)]
        back = [return_to(16 * k + 4) for k in reversed(range(65))]
        self.check(1, calls + back, returns=64)
        self.check(0, calls[1:] + back[:-1], returns=64)

    def test_a_call_at_the_very_end(self):
        self.check(1, [call(END - 4), return_to(0)], returns=4)
        self.check(0, [call(END - 5), return_to(END - 1)], returns=4)

    def test_a_return_is_no_jump(self):
        told = told_after([return_to(5), jump(0x7777, 5)], returns=4)
        self.assertEqual(told, {"returns": 1, "lost": 1, "jumps": 1, "unknown": 1})

    def test_a_jump_keeps_nothing(self):
        told = told_after([record(0x100, 0, 4, JUMP), return_to(0x104)], returns=4)
        self.assertEqual(told, {"returns": 1, "lost": 1, "jumps": 1, "unknown": 1})


class NothingElse(unittest.TestCase):
    def test_guesses_touch_no_cache(self):
        records = [*branches("10"), jump(0), call(0), return_to(4)]
        told = told_after(records, returns=4)
        self.assertFalse([name for name in told if name[-1] in "12" or name.startswith("memory")])


if __name__ == "__main__":
    unittest.main()
