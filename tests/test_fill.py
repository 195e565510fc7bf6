"""Promise 7: fill."""

import unittest

from building import (
    ALL, DATA, HOME, PAGE, SHIFT, FileCase, about, ask, code, data, fill, file_of, lay, le, read, sevens, take, text,
    want,
)

LOW = -2147483648
HIGH = 2147483647
BODY = [k * 11 % 251 + 1 for k in range(200)]
READY = [0x11, 0x51, 0x40] + text("name") + [0x71, 0]


def bound(bind, **changes):
    """An image whose data are BODY and zeros, with these words wanted."""
    rows = [code(), data(source=PAGE, filled=len(BODY))]
    return file_of(**dict({"segments": rows, "libraries": ["lib"], "bind": bind, "body": BODY}, **changes))


def body_with(words, length=200):
    now = (BODY + [0] * length)[:length]
    for place, value in words.items():
        now[place:place + 8] = le(value % ALL, 8)
    return now


class FillCase(FileCase):
    def holds(self, words, file, *calls, length=200):
        """Each of these calls answers 0, and then just these words are other than in BODY."""
        found = ask(take(file), *calls, read(DATA, length))
        self.assertEqual(found[:-1], [[0]] * (1 + len(calls)))
        self.assertEqual(found[-1], [length] + body_with(words, length))


class Filled(FillCase):
    def test_the_word_and_bytes_on_both_sides(self):
        for place in (0, 1, 3, 8, 64, 120, 192, 196, 199, 200):
            file = bound(READY + [0x71] + sevens(place) + [0x90])
            self.holds({place: 0x0102030405060708}, file, fill(0, 0x0102030405060708), length=220)

    def test_nothing_is_filled_before(self):
        self.holds({}, bound(READY + [0xC0, 3, 0]))

    def test_values(self):
        for value in (0, 1, 255, 256, 0x0123456789ABCDEF, 1 << 63, ALL - 256, ALL - 1):
            self.holds({0: value}, bound(READY + [0x90]), fill(0, value))

    def test_what_is_to_be_added(self):
        for number, added in (([5], 5), ([0x7F], -1), ([0x40], -64), ([0xFF] * 9 + [0], (1 << 63) - 1)):
            for value in (0, 1, 63, 64, HOME, ALL - 6, ALL - 5, ALL - 1):
                self.holds({0: value + added}, bound(READY + [0x60] + number + [0x90]), fill(0, value))

    def test_past_2_to_the_64(self):
        file = bound(READY + [0x60, 10, 0x90])
        self.holds({0: 0}, file, fill(0, ALL - 10))
        self.holds({0: 9}, file, fill(0, ALL - 1))
        self.holds({0: ALL - 1}, file, fill(0, ALL - 11))

    def test_below_0(self):
        file = bound(READY + [0x60, 0x7F, 0x90])
        self.holds({0: ALL - 1}, file, fill(0, 0))
        self.holds({0: 0}, file, fill(0, 1))
        self.holds({0: ALL - 2}, file, fill(0, ALL - 1))

    def test_what_the_word_was_does_not_count(self):
        zeros = file_of(libraries=["lib"], bind=READY + [0x60, 3, 0x90])
        found = ask(take(zeros), fill(0, 4), read(DATA, 10))
        self.assertEqual(found, [[0], [0], [10] + le(7, 8) + [0, 0]])
        self.holds({0: 7}, bound(READY + [0x60, 3, 0x90]), fill(0, 4))

    def test_twice(self):
        file = bound(READY + [0x60, 3, 0x90])
        self.holds({0: 103}, file, fill(0, ALL - 1), fill(0, 100))
        self.holds({0: 103}, file, fill(0, 100), fill(0, 100))
        self.holds({0: 3}, file, fill(0, 100), fill(0, 0))

    def test_each_of_several(self):
        bind = READY + [0xC0, 3, 2, 0x60, 1, 0x71, 80, 0x90, 0x60, 0x7E, 0x71, 60, 0x90]
        calls = [fill(k, 1000 * k) for k in (3, 0, 4, 2, 1)]
        self.holds({0: 0, 10: 1000, 20: 2000, 80: 3001, 60: 3998}, bound(bind), *calls)
        self.holds({10: 7, 60: 5}, bound(bind), fill(4, 7), fill(1, 7))

    def test_several_of_a_step_that_goes_back(self):
        bind = READY + [0x71, 80, 0xC0, 3] + sevens(ALL - 28)
        self.holds({80: 1, 60: 2, 40: 3}, bound(bind), fill(0, 1), fill(1, 2), fill(2, 3))
        self.holds({60: 2}, bound(bind), fill(1, 2))

    def test_words_that_touch(self):
        bind = READY + [0xC0, 3, 0]
        for k in range(3):
            self.holds({8 * k: ALL - 1}, bound(bind), fill(k, ALL - 1))

    def test_the_last_word_of_an_image(self):
        file = bound(READY + [0x71] + sevens(2 * PAGE - 8) + [0x90])
        found = ask(take(file), fill(0, ALL - 1), read(3 * PAGE - 10, 100))
        self.assertEqual(found[1:], [[0], [10, 0, 0] + [255] * 8])

    def test_a_word_behind_the_room_between_segments(self):
        rows = [code(), data(size=PAGE), data(place=HOME + 4 * PAGE, size=PAGE)]
        file = file_of(segments=rows, libraries=["lib"], bind=READY + [0xC0, 2] + sevens(3 * PAGE - 8))
        found = ask(take(file), fill(1, 0x1234), read(4 * PAGE - 2, 12), read(DATA, 8))
        self.assertEqual(found[1:], [[0], [12, 0, 0] + le(0x1234, 8) + [0, 0], [8] + [0] * 8])

    def test_a_word_in_the_first_segment(self):
        rows = [code(rights=7, size=2 * PAGE)]
        bind = [0x11, 0x51, 0x40] + text("name") + [0x70] + sevens(PAGE + 1) + [0x90]
        found = ask(take(file_of(segments=rows, libraries=["lib"], bind=bind)), fill(0, ALL - 2), read(PAGE, 10))
        self.assertEqual(found[1:], [[0], [10, 0, 254] + [255] * 7 + [0]])

    def test_parts_of_it_are_read(self):
        file = bound(READY + [0x71, 16, 0x90])
        now = body_with({16: SHIFT + HOME})
        for at in range(5, 30):
            for most in (1, 3, 8):
                found = ask(take(file), fill(0, SHIFT + HOME), read(DATA + at, most))
                self.assertEqual(found[2], [most] + now[at:at + most])


class WithLay(FillCase):
    """Words 0 and 2 are to be mended, 1 and 3 are wanted, with 5 to be added."""

    file = bound(READY + [0x60, 5, 0x80, 8, 0xC0, 2, 8], mend=[0x11, 0x21, 0, 0x80, 2, 8])
    zero = int.from_bytes(bytes(BODY[0:8]), "little")
    two = int.from_bytes(bytes(BODY[16:24]), "little")

    def mended(self, more, **filled):
        words = {0: self.zero + more, 16: self.two + more}
        words.update({{"one": 8, "three": 24}[name]: value for name, value in filled.items()})
        return words

    def test_filled_before_lay(self):
        self.holds(self.mended(SHIFT, one=105), self.file, fill(0, 100), lay(HOME + SHIFT))

    def test_filled_behind_lay(self):
        self.holds(self.mended(SHIFT, one=105), self.file, lay(HOME + SHIFT), fill(0, 100))

    def test_filled_between(self):
        self.holds(self.mended(-PAGE, one=105, three=205), self.file,
                   fill(0, 1), lay(HOME + SHIFT), fill(0, 100), fill(1, 200), lay(HOME - PAGE))

    def test_a_word_that_is_filled_does_not_change_at_lay(self):
        self.holds(self.mended(0, one=4, three=5), self.file,
                   fill(0, ALL - 1), fill(1, 0), lay(0), lay(HOME + SHIFT), lay(HOME))

    def test_a_word_that_is_mended_does_not_change_at_fill(self):
        self.holds(self.mended(0, one=4, three=4), self.file, fill(0, ALL - 1), fill(1, ALL - 1))
        self.holds(self.mended(PAGE, one=4, three=4), self.file, lay(HOME + PAGE), fill(0, ALL - 1), fill(1, ALL - 1))

    def test_a_word_that_is_not_filled_stays_as_the_file_says(self):
        self.holds(self.mended(PAGE), self.file, lay(HOME + PAGE))


class NoneThere(FillCase):
    ks = (LOW, LOW + 1, -2, -1, 2, 3, HIGH - 1, HIGH)

    def test_nothing_changes(self):
        file = bound(READY + [0x60, 3, 0xC0, 2, 0], mend=[0x11, 0x21, 40, 0x51])
        looks = [read(0, 200), read(DATA, 300), want(0), want(1), about()]
        tried = [fill(k, 0x7777) for k in self.ks]
        found = ask(take(file), lay(HOME + SHIFT), fill(1, 5), *looks, *tried, *looks, fill(0, 6), read(DATA, 16))
        self.assertEqual(found[:3], [[0]] * 3)
        self.assertEqual(found[8:16], [[-1]] * 8)
        self.assertEqual(found[16:21], found[3:8])
        self.assertEqual(found[21:], [[0], [16] + le(9, 8) + le(8, 8)])

    def test_an_image_that_wants_nothing(self):
        for file in (file_of(), file_of(told_parts=False), file_of(mend=[0x11, 0x21, 0, 0x51]),
                     file_of(libraries=["lib"], bind=READY + [0xC0, 0, 0])):
            found = ask(take(file), fill(0, 1), fill(-1, 1), fill(LOW, 1), fill(HIGH, 1), read(DATA, 32))
            self.assertEqual(found, [[0]] + [[-1]] * 4 + [[32] + [0] * 32])

    def test_no_image(self):
        self.assertEqual(ask(fill(0, 0), fill(-1, ALL - 1), fill(LOW, 0), fill(HIGH, 0)), [[-4]] * 4)
        self.assertEqual(ask(take(bound(READY + [0x90])), [0], fill(0, 0), fill(1, 0)), [[0], [0], [-4], [-4]])


if __name__ == "__main__":
    unittest.main()
