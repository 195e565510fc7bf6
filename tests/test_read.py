"""Promise 4: read."""

import unittest

from building import DATA, HOME, PAGE, SHIFT, FileCase, ask, code, data, file_of, lay, le, read, take

BODY = [k * 7 % 251 + 1 for k in range(1000)]
ROWS = [code(), data(source=PAGE, filled=1000), data(place=HOME + 3 * PAGE, size=PAGE, source=PAGE, filled=500)]
FILE = file_of(segments=ROWS, body=BODY)
CODE = FILE[:32 + 3 * 72 + 48]
WHOLE = CODE + [0] * (PAGE - len(CODE)) + BODY + [0] * (2 * PAGE - 1000) + BODY[:500] + [0] * (PAGE - 500)


class Read(FileCase):
    def reads(self, at, most, wanted):
        self.assertEqual(ask(take(FILE), read(at, most)), [[0], [len(wanted)] + wanted])

    def test_all_of_it(self):
        self.reads(0, 4 * PAGE, WHOLE)

    def test_from_the_middle(self):
        for at in (1, 31, 4000, DATA, DATA + 995, 3 * PAGE - 5):
            self.reads(at, 20, WHOLE[at:at + 20])

    def test_over_the_end(self):
        self.reads(4 * PAGE - 10, 10, [0] * 10)
        self.reads(4 * PAGE - 10, 11, [0] * 10)
        self.reads(4 * PAGE - 1, 400000, [0])
        self.reads(3 * PAGE, 400000, WHOLE[3 * PAGE:])

    def test_from_behind_the_end(self):
        for at in (4 * PAGE, 4 * PAGE + 1, 4194304, 4294967295):
            self.reads(at, 10, [])

    def test_most(self):
        self.reads(5, 0, [])
        self.reads(5, 1, WHOLE[5:6])
        self.reads(5, -1, [])
        self.reads(5, -2147483648, [])
        self.reads(5, 2147483647, [])
        self.reads(5, 4194305, [])

    def test_most_at_its_highest(self):
        # A line's reads may not ask for so much together; the bound is held all the same.
        self.reads(5, 4194304, WHOLE[5:])

    def test_zeros_where_no_bytes_are_laid(self):
        self.reads(DATA + 1000, 2 * PAGE - 1000, [0] * (2 * PAGE - 1000))
        self.reads(len(CODE), PAGE - len(CODE), [0] * (PAGE - len(CODE)))

    def test_as_much_as_a_line_may_ask_for(self):
        rows = [code(), data(size=4194304 - PAGE)]
        found = ask(take(file_of(segments=rows)), read(4194304 - 399999, 400000))
        self.assertEqual(found, [[0], [399999] + [0] * 399999])

    def test_whatever_the_rights_of_a_segment_are(self):
        for rights in range(8):
            rows = [code(rights=rights), data(rights=rights, source=PAGE, filled=1000)]
            file = file_of(segments=rows, body=BODY)
            found = ask(take(file), read(0, 32), read(DATA, 1001))
            self.assertEqual(found, [[0], [32] + file[:32], [1001] + BODY + [0]])

    def test_a_read_changes_nothing(self):
        found = ask(take(FILE), read(0, 4 * PAGE), read(0, 0), read(0, 4 * PAGE))
        self.assertEqual(found[3], found[1])


class Room(FileCase):
    """Segments with room between them, in which the image has zeros."""

    rows = [
        code(),
        data(place=HOME + 3 * PAGE, size=PAGE, source=PAGE, filled=1000),
        data(place=HOME + 4 * PAGE, size=PAGE, source=PAGE, filled=500),
        data(place=HOME + 6 * PAGE, size=2 * PAGE, source=PAGE, filled=7),
    ]
    file = file_of(segments=rows, body=BODY)

    def whole(self):
        filled = 32 + 4 * 72 + 48
        laid = self.file[:filled] + [0] * (3 * PAGE - filled)
        laid += BODY + [0] * (PAGE - 1000) + BODY[:500] + [0] * (2 * PAGE - 500)
        return laid + BODY[:7] + [0] * (2 * PAGE - 7)

    def test_all_of_it(self):
        self.assertEqual(ask(take(self.file), read(0, 20 * PAGE)), [[0], [8 * PAGE] + self.whole()])

    def test_over_its_edges(self):
        for edge in (PAGE, 3 * PAGE, 5 * PAGE, 6 * PAGE, 8 * PAGE):
            for at in (edge - 10, edge - 1, edge, edge + 1):
                part = self.whole()[at:at + 20]
                self.assertEqual(ask(take(self.file), read(at, 20)), [[0], [len(part)] + part])

    def test_behind_a_segment_that_is_full(self):
        body = [k % 255 + 1 for k in range(PAGE)]
        rows = [code(), data(size=PAGE, source=PAGE, filled=PAGE),
                data(place=HOME + 3 * PAGE, size=PAGE, source=PAGE, filled=PAGE)]
        found = ask(take(file_of(segments=rows, body=body)), read(PAGE, 4 * PAGE))
        self.assertEqual(found, [[0], [3 * PAGE] + body + [0] * PAGE + body])

    def test_laying_changes_nothing_in_it(self):
        mend = [0x11, 0x21, 0, 0x51, 0x23, 0, 0x51]
        file = file_of(segments=self.rows, mend=mend, body=BODY)
        found = ask(take(file), lay(HOME + SHIFT), read(PAGE, 2 * PAGE), read(5 * PAGE, PAGE), read(6 * PAGE, 8))
        value = int.from_bytes(bytes(BODY[:7]), "little")
        self.assertEqual(found[2:], [[2 * PAGE] + [0] * 2 * PAGE, [PAGE] + [0] * PAGE, [8] + le(value + SHIFT, 8)])


class Mended(FileCase):
    """Parts of words that are mended, as they're read."""

    rows = [code(), data(source=PAGE, filled=1000)]
    file = file_of(segments=rows, mend=[0x11, 0x21, 3, 0x53, 0x70, 5, 0x21, 0x84, 0x3F, 0x51], body=BODY)

    def setUp(self):
        self.now = BODY + [0] * (2 * PAGE - 1000)
        for place in (3, 11, 19, 27, 0x1F84):
            value = int.from_bytes(bytes(self.now[place:place + 8]), "little")
            self.now[place:place + 8] = le(value + SHIFT, 8)

    def test_from_each_byte_on(self):
        for at in range(45):
            for most in (1, 2, 7, 8, 9, 20):
                found = ask(take(self.file), lay(HOME + SHIFT), read(DATA + at, most))
                self.assertEqual(found[2], [most] + self.now[at:at + most])

    def test_each_byte_of_a_word_below_0(self):
        file = file_of(mend=[0x11, 0x21, 16, 0x51])
        now = [0] * 16 + le((1 << 64) - PAGE, 8) + [0] * 16
        for at in range(len(now)):
            found = ask(take(file), lay(HOME - PAGE), read(DATA + at, 1), read(DATA + at, 5))
            self.assertEqual(found[2], [1, now[at]])
            self.assertEqual(found[3], [5] + (now + [0] * 5)[at:at + 5])

    def test_at_the_end(self):
        for at in range(0x1F80, 2 * PAGE):
            found = ask(take(self.file), lay(HOME + SHIFT), read(DATA + at, 1000))
            self.assertEqual(found[2], [2 * PAGE - at] + self.now[at:])


if __name__ == "__main__":
    unittest.main()
