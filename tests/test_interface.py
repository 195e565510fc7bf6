"""What the interface says of every call."""

import contextlib
import io
import unittest

from building import HOME, KEPT, SHIFT, answers, le, take


class Interface(unittest.TestCase):
    def test_how_answers_stand_in_the_list(self):
        calls = [0] + take(KEPT) + [2, HOME + SHIFT] + [3, 4096 + 8, 8] + [2, 1] + [3, 0, 0]
        self.assertEqual(answers(calls), [1, 0, 1, 0, 1, 0, 9, 8] + le(SHIFT, 8) + [1, -1, 1, 0])

    def test_what_is_handed_in_stays_as_it_is(self):
        calls = [0] + take(KEPT) + [2, HOME + SHIFT] + [3, 0, 20000] + take(KEPT[:-1]) + [0]
        before = list(calls)
        answers(calls)
        self.assertEqual(calls, before)

    def test_nothing_is_kept_from_one_time_to_the_next(self):
        calls = [0] + take(KEPT) + [3, 4096, 32] + [2, HOME + SHIFT] + [3, 4096, 32]
        first = answers(calls)
        self.assertEqual(answers([3, 0, 1]), [1, -4])
        self.assertEqual(answers([0, 2, HOME]), [1, 0, 1, -4])
        self.assertEqual(answers(calls), first)

    def test_what_is_given_back_is_a_list_of_plain_whole_numbers(self):
        found = answers([0] + take(KEPT) + [2, HOME] + [3, 0, 100] + take([]) + [0, 3, 0, 1])
        self.assertIs(type(found), list)
        self.assertEqual({type(number) for number in found}, {int})

    def test_nothing_is_printed(self):
        out = io.StringIO()
        err = io.StringIO()
        with contextlib.redirect_stdout(out), contextlib.redirect_stderr(err):
            answers([0] + take(KEPT) + [3, 0, 100] + take([]))
        self.assertEqual(out.getvalue() + err.getvalue(), "")

    def test_four_hundred_calls(self):
        calls = [0] + take(KEPT) + [2, HOME + SHIFT, 3, 4096 + 8, 1000] * 199
        found = answers(calls)
        one = [1, 0, 1001, 1000] + le(SHIFT, 8) + [0] * 992
        self.assertEqual(found, [1, 0, 1, 0] + one * 199)


if __name__ == "__main__":
    unittest.main()
