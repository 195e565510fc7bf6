"""Promise 3: lay."""

import unittest

from building import ALL, DATA, HOME, PAGE, SHIFT, TOP, FileCase, ask, code, data, file_of, lay, le, read, sevens, take

LAST = TOP - 4194304 - PAGE
VALUES = [0, 1, HOME, HOME + 4660, ALL - 1, ALL - PAGE, 0x0102030405060708, SHIFT]


def words(values):
    return [byte for value in values for byte in le(value % ALL, 8)]


def image_with(values, home=HOME, mend=None):
    """An image whose data are these words, all to be mended, and one more behind that isn't."""
    body = words(values + [HOME])
    rows = [code(place=home), data(place=home + PAGE, source=PAGE, filled=len(body))]
    if mend is None:
        mend = [0x11, 0x21, 0, 0x60] + sevens(len(values))
    return file_of(segments=rows, mend=mend, body=body)


class Lay(FileCase):
    def after(self, *bases, file=None):
        """The words of VALUES and the one behind them, once it was laid at these bases, one after another."""
        file = image_with(VALUES) if file is None else file
        found = ask(take(file), *[lay(base) for base in bases], read(DATA, 8 * len(VALUES) + 8))
        self.assertEqual(found[:-1], [[0]] * (1 + len(bases)))
        return found[-1][1:]

    def expected(self, more):
        return words([value + more for value in VALUES] + [HOME])

    def test_where_it_is_at_first(self):
        self.assertEqual(self.after(), self.expected(0))

    def test_up(self):
        for more in (PAGE, 16 * PAGE, SHIFT):
            self.assertEqual(self.after(HOME + more), self.expected(more))

    def test_down(self):
        for less in (PAGE, 16 * PAGE, HOME):
            self.assertEqual(self.after(HOME - less), self.expected(-less))

    def test_where_it_lies_already(self):
        self.assertEqual(self.after(HOME), self.expected(0))
        self.assertEqual(self.after(HOME + PAGE, HOME + PAGE), self.expected(PAGE))

    def test_twice(self):
        self.assertEqual(self.after(HOME + PAGE, HOME + 3 * PAGE), self.expected(3 * PAGE))
        self.assertEqual(self.after(HOME + SHIFT, HOME - PAGE), self.expected(-PAGE))
        self.assertEqual(self.after(0, LAST, PAGE, HOME + PAGE), self.expected(PAGE))

    def test_back(self):
        self.assertEqual(self.after(HOME + SHIFT, HOME), self.expected(0))
        self.assertEqual(self.after(0, LAST, HOME), self.expected(0))

    def test_from_another_home(self):
        for home in (0, PAGE, TOP - 4 * PAGE):
            file = image_with(VALUES, home)
            self.assertEqual(self.after(file=file), self.expected(0))
            self.assertEqual(self.after(HOME, file=file), self.expected(HOME - home))

    def test_a_word_that_passes_2_to_the_64(self):
        found = ask(take(image_with([ALL - PAGE, ALL - 1])), lay(HOME + PAGE), read(DATA, 16))
        self.assertEqual(found[2], [16] + words([0, PAGE - 1]))

    def test_a_word_that_passes_0(self):
        found = ask(take(image_with([0, PAGE - 1, PAGE])), lay(HOME - PAGE), read(DATA, 24))
        self.assertEqual(found[2], [24] + words([ALL - PAGE, ALL - 1, 0]))

    def test_bytes_beside_a_word_stay(self):
        body = list(range(1, 33))
        rows = [code(), data(source=PAGE, filled=32)]
        file = file_of(segments=rows, mend=[0x11, 0x21, 5, 0x70, 3, 0x51], body=body)
        found = ask(take(file), lay(HOME + SHIFT), read(DATA, 32))
        mended = list(body)
        for place in (5, 16):
            value = int.from_bytes(bytes(body[place:place + 8]), "little")
            mended[place:place + 8] = le((value + SHIFT) % ALL, 8)
        self.assertEqual(found[2], [32] + mended)

    def test_words_that_are_wanted_stay(self):
        bind = [0x11, 0x51, 0x40, 65, 0, 0x71, 8, 0x90]
        body = words([HOME, HOME])
        rows = [code(), data(source=PAGE, filled=16)]
        file = file_of(segments=rows, libraries=["x"], bind=bind, mend=[0x11, 0x21, 0, 0x51], body=body)
        found = ask(take(file), lay(HOME + PAGE), read(DATA, 16))
        self.assertEqual(found[2], [16] + words([HOME + PAGE, HOME]))

    def test_without_words_to_be_mended(self):
        file = file_of()
        self.assertEqual(ask(take(file), lay(0), read(0, len(file))), [[0], [0], [len(file)] + file])

    def test_a_new_image_lies_at_its_own_place(self):
        file = image_with(VALUES)
        other = image_with(VALUES, HOME + 8 * PAGE)
        found = ask(take(file), lay(HOME + PAGE), take(other), read(DATA, 8), lay(HOME + 9 * PAGE), read(DATA, 8))
        self.assertEqual(found[3], [8] + words([0]))
        self.assertEqual(found[5], [8] + words([PAGE]))


class Refused(FileCase):
    def keeps(self, *bases):
        file = image_with(VALUES)
        look = read(DATA, 80)
        tried = [lay(base) for base in bases]
        found = ask(take(file), lay(HOME + PAGE), look, *tried, look, lay(HOME + 2 * PAGE), look)
        self.assertEqual(found[3:-3], [[-1]] * len(bases))
        self.assertEqual(found[-3], found[2])
        self.assertEqual(found[-1][1:9], le(2 * PAGE, 8))

    def test_no_multiple_of_4096(self):
        self.keeps(1, 8, 2048, 4095, 4097, HOME + 1, HOME + 2048, LAST + 1, LAST - 1)

    def test_2_to_the_47_and_above(self):
        self.assertEqual(ask(take(image_with(VALUES)), lay(LAST)), [[0], [0]])
        self.keeps(LAST + PAGE, LAST + 2 * PAGE, TOP - PAGE, TOP, TOP + PAGE, ALL - PAGE, ALL - 4194304, ALL - 1)

    def test_0(self):
        self.assertEqual(ask(take(image_with(VALUES)), lay(0)), [[0], [0]])


if __name__ == "__main__":
    unittest.main()
