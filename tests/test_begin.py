"""Promise 1: begin."""

import unittest

from building import HOME, KEPT, ask, begin, lay, read, take
from mendedimage.desk import answers


class Begin(unittest.TestCase):
    def test_no_call_has_no_answer(self):
        self.assertEqual(answers([]), [])

    def test_begin_answers_0(self):
        self.assertEqual(answers([0]), [1, 0])
        self.assertEqual(answers([0, 0, 0]), [1, 0, 1, 0, 1, 0])

    def test_without_an_image_all_but_open_answer_less_4(self):
        calls = [lay(HOME), read(0, 1), [4, 2, 65, 66], [4, 0], [5, 3], [6, 3, 1], [7], [7], lay(HOME)]
        self.assertEqual(ask(*calls), [[-4]] * 9)

    def test_less_4_comes_ahead_of_other_refusals(self):
        calls = [lay(1), lay(2**64 - 1), read(0, 0), read(2**32 - 1, -1), [5, -1], [6, -1, 0]]
        self.assertEqual(ask(*calls), [[-4]] * 6)

    def test_a_refused_file_makes_no_image(self):
        self.assertEqual(ask(take([1]), lay(HOME), read(0, 1)), [[-1], [-4], [-4]])

    def test_a_second_begin_takes_the_image_away(self):
        found = ask(take(KEPT), read(0, 1), begin(), lay(HOME), read(0, 1), take(KEPT), read(0, 1))
        self.assertEqual(found, [[0], [1, 0xCF], [0], [-4], [-4], [0], [1, 0xCF]])


if __name__ == "__main__":
    unittest.main()
