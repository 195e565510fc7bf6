"""Promise 6: want."""

import unittest

from building import (
    ALL, DATA, HOME, PAGE, SHIFT, FileCase, ask, bare, code, data, fill, file_of, lay, sevens, take, text, told, want,
)

LOW = -2147483648
HIGH = 2147483647
READY = [0x11, 0x51, 0x40] + text("name") + [0x71, 0]
WIDE = [code(), data(size=4194304 - PAGE)]


def named(letters):
    return [0x40] + text(letters)


class WantCase(FileCase):
    def bound(self, bind, **changes):
        return file_of(**dict({"libraries": ["lib"], "bind": bind}, **changes))

    def wants(self, rows, bind, **changes):
        """Just these are wanted, in this order."""
        count = len(rows)
        calls = [want(k) for k in range(count)] + [want(k) for k in (-1, count, count + 1, LOW, HIGH)]
        found = ask(take(self.bound(bind, **changes)), *calls)
        self.assertEqual(found, [[0]] + rows + [[-1]] * 5)

    def wants_at(self, places, bind, **changes):
        self.wants([told(DATA + place) for place in places], bind, **changes)


class Listed(WantCase):
    def test_one(self):
        self.wants_at([0], READY + [0x90])

    def test_how_an_answer_stands(self):
        found = ask(take(self.bound(READY + [0x90])), want(0))[1]
        self.assertEqual(len(found), 4 + 510)
        self.assertEqual(found[:4], [4, DATA, 1, 0])
        self.assertEqual(found[4:259], list(b"lib") + [0] * 252)
        self.assertEqual(found[259:], list(b"name") + [0] * 251)

    def test_an_image_that_wants_nothing(self):
        self.wants([], [])
        self.wants([], READY)
        self.wants([], [], told_parts=False, libraries=[])
        self.wants([], [], mend=[0x11, 0x21, 0, 0x53])

    def test_no_words_done(self):
        self.wants([], READY + [0xC0, 0, 0])
        self.wants_at([0], READY + [0xC0, 0, 5, 0x90])
        self.wants_at([0, 8], READY + [0x90, 0xC0, 0, 5, 0x90, 0xC0, 0, 0])

    def test_each_step_that_does_words(self):
        self.wants_at([0, 8], READY + [0x90, 0x90])
        self.wants_at([0, 11], READY + [0xA0, 3, 0x90])
        self.wants_at([0, 8 + 8 * 15], READY + [0xBF, 0x90])
        self.wants_at([0, 10, 20, 30], READY + [0xC0, 3, 2, 0x90])

    def test_the_order_is_that_in_which_they_are_done(self):
        self.wants_at([80, 8, 40, 0], READY + [0x71, 80, 0x90, 0x71, 8, 0x90, 0x71, 40, 0x90, 0x71, 0, 0x90])

    def test_several_words_of_one_step(self):
        self.wants_at([24, 32, 40, 0, 8], READY + [0x71, 24, 0xC0, 3, 0, 0x71, 0, 0xC0, 2, 0])
        self.wants_at([5, 100, 195, 290], READY + [0x71, 5, 0xC0, 4, 87])

    def test_several_words_of_one_step_that_goes_back(self):
        self.wants_at([80, 60, 40, 20], READY + [0x71, 80, 0xC0, 3] + sevens(ALL - 28) + [0x90])
        self.wants_at([32, 24, 16, 8, 0], READY + [0x71, 32, 0xC0, 5] + sevens(ALL - 16))

    def test_one_word_and_then_back(self):
        self.wants_at([16, 8, 0], READY + [0x71, 16] + [0xA0] + sevens(ALL - 16) + [0xA0] + sevens(ALL - 16) + [0x90])
        self.wants_at([16, 0], READY + [0x71, 16, 0x90, 0x80] + sevens(ALL - 24) + [0x90])

    def test_words_of_two_steps_among_one_another(self):
        self.wants_at([0, 16, 32, 8, 24], READY + [0xC0, 3, 8, 0x71, 8, 0xC0, 2, 8])

    def test_words_of_one_step_in_several_segments(self):
        rows = [code(), data(size=PAGE), data(place=HOME + 4 * PAGE, size=PAGE)]
        bind = READY + [0xC0, 2] + sevens(3 * PAGE - 8)
        self.wants_at([0, 3 * PAGE], bind, segments=rows)

    def test_places_are_counted_from_the_first_laid_segment(self):
        bind = [0x11, 0x51] + named("name") + [0x72, 16, 0x90, 0x71] + sevens(PAGE + 32) + [0x90]
        self.wants_at([16, 32], bind, segments=[bare(), code(), data()])

    def test_the_last_word_of_an_image(self):
        self.wants_at([2 * PAGE - 8], READY + [0x71] + sevens(2 * PAGE - 8) + [0x90])

    def test_as_many_as_an_image_has(self):
        words = 65536
        bind = READY + ([0xC0] + sevens(words) + [0]) * 7 + [0xC0] + sevens(words - 512) + [0]
        last = 8 * words - 512 - 1
        ks = [0, 1, words - 1, words, words + 1, 5 * words, last]
        found = ask(take(self.bound(bind, segments=WIDE)), *[want(k) for k in ks + [last + 1]])
        self.assertEqual(found, [[0]] + [told(DATA + 8 * k) for k in ks] + [[-1]])


class Told(WantCase):
    def test_each_with_what_was_told_last(self):
        bind = [0x12, 0x51] + named("first") + [0x71, 0, 0x90]
        bind += [0x11, 0x90]
        bind += named("second") + [0x60, 5, 0xC0, 2, 0]
        bind += [0x20, 3, 0x60, 0x7F] + named("z") + [0xB0]
        bind += [0x60, 0, 0x90]
        rows = [
            told(DATA, "two", "first", 2),
            told(DATA + 8, "one", "first", 1),
            told(DATA + 16, "one", "second", 1, 5),
            told(DATA + 24, "one", "second", 1, 5),
            told(DATA + 32, "three", "z", 3, -1),
            told(DATA + 40, "three", "z", 3, 0),
        ]
        self.wants(rows, bind, libraries=["one", "two", "three"])

    def test_what_is_told_behind_a_word_does_not_change_it(self):
        bind = READY + [0x90] + named("other") + [0x12, 0x60, 9]
        self.wants([told(DATA)], bind, libraries=["lib", "more"])

    def test_libraries_up_to_64(self):
        names = [f"lib{k}" for k in range(1, 65)]
        bind = [0x51] + named("n") + [0x71, 0]
        for number in range(1, 65):
            bind += [0x20, number, 0x90]
        rows = [told(DATA + 8 * k, names[k], "n", k + 1) for k in range(64)]
        self.wants(rows, bind, libraries=names)

    def test_libraries_told_by_n(self):
        names = [f"lib{k}" for k in range(1, 16)]
        bind = [0x51] + named("n") + [0x71, 0]
        for number in range(15, 0, -1):
            bind += [0x10 + number, 0x90]
        rows = [told(DATA + 8 * k, names[14 - k], "n", 15 - k) for k in range(15)]
        self.wants(rows, bind, libraries=names)

    def test_two_libraries_of_one_name(self):
        bind = READY + [0x90, 0x12, 0x90]
        self.wants([told(DATA, "x"), told(DATA + 8, "x", number=2)], bind, libraries=["x", "x"])

    def test_a_library_with_no_name_and_one_with_255(self):
        for name in ("", "a", "l" * 254, "l" * 255):
            self.wants([told(DATA, name)], READY + [0x90], libraries=[name])

    def test_names_of_1_up_to_255(self):
        for name in ("a", "!", "~", "n" * 254, "n" * 255):
            bind = [0x11, 0x51] + named(name) + [0x71, 0, 0x90]
            self.wants([told(DATA, name=name)], bind)
        bind = [0x11, 0x51] + named("n" * 255) + [0x71, 0, 0x90]
        self.wants([told(DATA, "l" * 255, "n" * 255)], bind, libraries=["l" * 255])

    def test_what_stands_behind_a_librarys_name_is_not_told(self):
        letters = text("lib") + [77, 78, 79, 80]
        self.wants([told(DATA)], READY + [0x90], libraries=[letters])

    def test_what_is_to_be_added(self):
        rows = [
            ([0], 0), ([1], 1), ([0x3F], 63), ([0x40], -64), ([0x7F], -1), ([0xFF, 0x00], 127), ([0x80, 0x7F], -128),
            ([0x80, 0x40], -8192), ([0xFF] * 9 + [0x00], (1 << 63) - 1), ([0x80] * 9 + [0x7F], -(1 << 63)),
            ([0xFF] * 9 + [0x7F], -1), ([0x85] + [0x80] * 8 + [0x02], 5), ([0xFF] * 9 + [0x01], ALL - 1),
        ]
        for number, added in rows:
            self.wants([told(DATA, added=added)], READY + [0x60] + number + [0x90])

    def test_0_is_added_at_first(self):
        self.wants([told(DATA), told(DATA + 8, added=-2)], READY + [0x90, 0x60, 0x7E, 0x90])


class Unchanged(WantCase):
    def test_by_lay_and_by_fill(self):
        file = self.bound(READY + [0x60, 0x7F, 0xC0, 2, 0])
        rows = [told(DATA, added=-1), told(DATA + 8, added=-1)]
        looks = [want(0), want(1), want(2)]
        found = ask(take(file), *looks, lay(HOME + SHIFT), *looks, fill(0, 77), *looks, lay(0), *looks)
        wanted = [[0]] + rows + [[-1]]
        self.assertEqual(found, wanted * 4)

    def test_asked_again_and_in_any_order(self):
        file = self.bound(READY + [0x90, 0x60, 3, 0x90])
        found = ask(take(file), want(1), want(0), want(-1), want(0), want(1))
        first = told(DATA)
        second = told(DATA + 8, added=3)
        self.assertEqual(found, [[0], second, first, [-1], first, second])


class NoneThere(WantCase):
    def test_k_at_both_ends_of_its_range(self):
        ks = [LOW, LOW + 1, -2, -1, 2, 3, HIGH - 1, HIGH]
        found = ask(take(self.bound(READY + [0xC0, 2, 0])), *[want(k) for k in ks])
        self.assertEqual(found, [[0]] + [[-1]] * 8)

    def test_no_image(self):
        self.assertEqual(ask(want(0), want(-1), want(LOW), want(HIGH)), [[-4]] * 4)
        file = self.bound(READY + [0x90])
        self.assertEqual(ask(take(file), [0], want(0), want(1)), [[0], [0], [-4], [-4]])


if __name__ == "__main__":
    unittest.main()
