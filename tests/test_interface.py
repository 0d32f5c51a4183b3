import contextlib
import io
import unittest

from cacheguess.processor import answers
from tests.helper import TOLD, WRITE, branches, cache, guesses, record, run, start, start_with, writes

CALLS = (
    start_with(cache(1, 2, 4, 3, 0, 1), cache(1, 2, 4, 3, 0, 1), cache(2, 3, 5, 3), guess=guesses(4, 4, 4, 2, 2, 2, 2))
    + run(*writes(0, 64, 128, 192, 256, 0), *branches("110101"))
    + TOLD
    + run(record(kind=7))
    + run()
    + TOLD
)


class Answers(unittest.TestCase):
    def test_how_many_then_these(self):
        calls = start_with(cache(), cache()) + run(record(5, kind=WRITE)) + run(record(size=0)) + TOLD + run()
        told = [0] * 9 + [1, 0, 0, 1, 0] + [0] * 6
        self.assertEqual(answers(calls), [1, 0, 1, 0, 1, -2, 21, 20] + told + [1, 0])

    def test_a_start_alone(self):
        self.assertEqual(answers(start_with(cache(), cache())), [1, 0])
        self.assertEqual(answers(start(-2147483648, [])), [1, -1])
        self.assertEqual(answers(start(2, [0] * 19)), [1, -2])

    def test_what_is_handed_in_stays_as_it_was(self):
        for calls in (CALLS, start(5, []), start(2, [0] * 19)):
            handed_in = list(calls)
            answers(handed_in)
            self.assertEqual(handed_in, calls)

    def test_never_changed_for_a_while_either(self):
        class Watched(list):
            def changed(self, *rest, **named):
                raise AssertionError("what is handed in was changed")

            __setitem__ = __delitem__ = __iadd__ = __imul__ = changed
            append = extend = insert = pop = remove = clear = sort = reverse = changed

        self.assertEqual(answers(Watched(CALLS)), answers(CALLS))

    def test_nothing_is_kept_from_one_time_to_the_next(self):
        first = answers(CALLS)
        answers(start_with(cache(ways=16, policy=3), cache(through=1)) + run(*writes(0, 16)) + TOLD)
        answers(start(0, []))
        self.assertEqual(answers(CALLS), first)
        self.assertEqual(answers(list(CALLS)), first)

    def test_a_new_list_of_ints(self):
        first = answers(CALLS)
        self.assertIs(type(first), list)
        self.assertTrue(all(type(number) is int for number in first))
        first.clear()
        self.assertNotEqual(answers(CALLS), [])

    def test_the_longest_lists(self):
        calls = start_with(*[cache()] * 4) + TOLD * 299
        self.assertEqual(answers(calls), [1, 0] + ([33, 32] + [0] * 32) * 299)
        calls = start_with(cache(), cache()) + run(*[record(16 * k) for k in range(3180)]) + TOLD
        self.assertEqual(answers(calls), [1, 0, 1, 0, 21, 20] + [0] * 7 + [3180] + [0] * 4 + [3180] + [0] * 7)

    def test_nothing_is_printed(self):
        with contextlib.redirect_stdout(io.StringIO()) as out, contextlib.redirect_stderr(io.StringIO()) as err:
            answers(CALLS)
        self.assertEqual(out.getvalue() + err.getvalue(), "")


if __name__ == "__main__":
    unittest.main()
