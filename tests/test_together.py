"""All eight calls in one list, in any order."""

import itertools
import unittest

from building import (
    DATA, HOME, PAGE, SHIFT, FileCase, about, answers, ask, begin, code, data, fill, file_of, find, forest, lay, le,
    read, take, text, told, want,
)

BODY = le(HOME, 8) + le(0x1111, 8) + le(0x2222, 8) + le(0x3333, 8)
ROWS = [code(), data(source=PAGE, filled=32)]


def words(*values):
    return [byte for value in values for byte in le(value, 8)]


# Its word 0 is to be mended; 2 and 1 are wanted, in this order, with 5 to be added; 3 is neither.
FILE = file_of(
    segments=ROWS,
    libraries=["first", "second"],
    beginning=64,
    mend=[0x11, 0x21, 0, 0x51],
    bind=[0x12, 0x51, 0x40] + text("own") + [0x60, 5, 0x71, 16, 0x90, 0x11, 0x71, 8, 0x90],
    tree=forest("there", "too"),
    body=BODY,
)
OTHER = file_of(segments=[code(place=0), data(place=PAGE)], tree=forest("other"))
ABOUT = [2, HOME, 3 * PAGE, 64, 1, 2, 2]


class Together(FileCase):
    def test_all_eight(self):
        calls = [begin(), take(FILE), lay(HOME + SHIFT), read(DATA, 32), find("there"), want(0), want(1), fill(0, 1),
                 about(), read(DATA, 32)]
        wanted = [
            [0], [0], [0], [32] + words(HOME + SHIFT, 0x1111, 0x2222, 0x3333), [0, 1],
            told(DATA + 16, "second", "own", 2, 5), told(DATA + 8, "first", "own", 1, 5), [0],
            [2, HOME + SHIFT, 3 * PAGE, 64, 1, 2, 2], [32] + words(HOME + SHIFT, 0x1111, 6, 0x3333),
        ]
        found = answers([number for call in calls for number in call])
        self.assertEqual(found, [number for row in wanted for number in [len(row)] + row])

    def test_in_any_order(self):
        steps = [lay(HOME + SHIFT), fill(0, 1), fill(1, 2), lay(HOME + PAGE), fill(2, 3), lay(3)]
        for order in itertools.permutations(range(6)):
            found = ask(take(FILE), *[steps[k] for k in order], read(DATA, 32), about(), find("too"), want(1))
            self.assertEqual([found[1 + order.index(k)] for k in range(6)], [[0]] * 4 + [[-1]] * 2)
            more = SHIFT if order.index(0) > order.index(3) else PAGE
            self.assertEqual(found[7], [32] + words(HOME + more, 7, 6, 0x3333))
            self.assertEqual(found[8], [2, HOME + more] + ABOUT[2:])
            self.assertEqual(found[9:], [[0, 1], told(DATA + 8, "first", "own", 1, 5)])

    def test_looks_change_nothing(self):
        looks = [read(DATA, 32), find("there"), find("no"), find(""), want(0), want(2), about(), read(0, 0), want(-1)]
        once = ask(take(FILE), lay(HOME + SHIFT), fill(1, 9), *looks)
        again = ask(take(FILE), lay(HOME + SHIFT), fill(1, 9), *(looks * 5 + looks[::-1] + looks))
        self.assertEqual(again[3:12], once[3:])
        self.assertEqual(again[-9:], once[3:])
        self.assertEqual(again[-18:-9], once[:2:-1])

    def test_open_again(self):
        fresh = ask(take(FILE), read(DATA, 32), about(), want(0), want(1))
        found = ask(take(FILE), fill(0, 1), lay(HOME + SHIFT), fill(1, 2), take(FILE), read(DATA, 32), about(),
                    want(0), want(1), lay(HOME + PAGE), read(DATA, 32))
        self.assertEqual(fresh[1:3], [[32] + BODY, ABOUT])
        self.assertEqual(found[4:9], fresh)
        self.assertEqual(found[9:], [[0], [32] + words(HOME + PAGE, 0x1111, 0x2222, 0x3333)])

    def test_open_another(self):
        found = ask(take(FILE), fill(0, 1), lay(HOME + SHIFT), take(OTHER), about(), find("there"), find("other"),
                    want(0), fill(0, 1), read(DATA, 32), take(FILE), about(), find("there"), find("other"),
                    want(0), read(DATA, 32))
        other = [[0], [2, 0, 3 * PAGE, 0, 0, 0, 1], [-1], [0, 1], [-1], [-1], [32] + [0] * 32]
        again = [[0], ABOUT, [0, 1], [-1], told(DATA + 16, "second", "own", 2, 5), [32] + BODY]
        self.assertEqual(found[3:], other + again)

    def test_an_open_that_is_refused(self):
        looks = [read(DATA, 32), about(), find("there"), want(0), want(1)]
        for file in ([], [1], FILE[:-1], FILE[:31] + FILE[32:], OTHER[:40]):
            calls = [fill(0, 1), lay(HOME + SHIFT)] + looks + [take(file)] + looks + [fill(1, 3), read(DATA, 32)]
            found = ask(take(FILE), *calls)
            self.assertEqual(found[8], [-1])
            self.assertEqual(found[9:14], found[3:8])
            self.assertEqual(found[3], [32] + words(HOME + SHIFT, 0x1111, 6, 0x3333))
            self.assertEqual(found[14:], [[0], [32] + words(HOME + SHIFT, 8, 6, 0x3333)])

    def test_begin_takes_the_image_away(self):
        asked = [lay(HOME), read(0, 1), find("there"), want(0), fill(0, 1), about()]
        found = ask(take(FILE), *asked, begin(), *asked, begin(), take(OTHER), about(), begin(), *asked)
        self.assertNotIn([-4], found[:7])
        self.assertEqual(found[7], [0])
        self.assertEqual(found[8:14], [[-4]] * 6)
        self.assertEqual(found[14:17], [[0], [0], [2, 0, 3 * PAGE, 0, 0, 0, 1]])
        self.assertEqual(found[17:], [[0]] + [[-4]] * 6)

    def test_an_image_behind_begin_knows_nothing_of_the_one_before(self):
        found = ask(take(FILE), fill(0, 1), lay(HOME + SHIFT), begin(), take(FILE), read(DATA, 32), about())
        self.assertEqual(found[5:], [[32] + BODY, ABOUT])


class Whole(FileCase):
    calls = [number for call in (
        begin(), take(FILE), about(), fill(1, 7), read(DATA, 32), lay(HOME + SHIFT), want(0), find("too"), fill(5, 5),
        lay(1), take(OTHER), find("other"), begin(), about(), take(FILE), read(DATA, 32), want(1), about(),
    ) for number in call]

    def test_what_is_handed_in_stays_as_it_is(self):
        calls = list(self.calls)
        answers(calls)
        self.assertEqual(calls, self.calls)

    def test_what_is_given_back_may_be_changed(self):
        first = answers(self.calls)
        kept = list(first)
        for k in range(len(first)):
            first[k] = -9
        self.assertEqual(answers(self.calls), kept)

    def test_two_times_know_nothing_of_one_another(self):
        first = answers(self.calls)
        for asked in (about(), want(0), fill(0, 1), find("there"), find(""), read(0, 1), lay(HOME)):
            self.assertEqual(answers(begin() + asked), [1, 0, 1, -4])
        self.assertEqual(answers(begin() + take(OTHER) + find("there") + want(0)), [1, 0, 1, 0, 1, -1, 1, -1])
        self.assertEqual(answers(self.calls), first)

    def test_plain_whole_numbers(self):
        self.assertEqual({type(number) for number in answers(self.calls)}, {int})

    def test_four_hundred_calls(self):
        calls = [begin(), take(FILE)]
        for k in range(66):
            calls += [lay(HOME + k * PAGE), fill(0, k), want(0), find("too"), about(), read(DATA, 24)]
        calls += [about()] * 2
        found = ask(*calls[1:])
        self.assertEqual(len(calls), 400)
        for k in range(66):
            self.assertEqual(found[1 + 6 * k:7 + 6 * k], [
                [0], [0], told(DATA + 16, "second", "own", 2, 5), [0, 1], [2, HOME + k * PAGE] + ABOUT[2:],
                [24] + words(HOME + k * PAGE, 0x1111, k + 5)])


if __name__ == "__main__":
    unittest.main()
