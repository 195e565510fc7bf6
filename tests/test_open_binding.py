"""Promise 2: open, as far as the program that binds is told."""

import unittest

from building import ALL, HOME, PAGE, FileCase, bare, code, data, file_of, sevens, text
from mendedimage.reading import Cursor
from mendedimage.refusals import BadFile

NAME = [0x40] + text("name")
READY = [0x11, 0x51] + NAME + [0x71, 0]
WIDE = [code(), data(size=4194304 - PAGE)]


def far(place):
    return [0x11, 0x51] + NAME + [0x71] + sevens(place)


class BindCase(FileCase):
    def bound(self, bind, **changes):
        return file_of(**dict({"libraries": ["one", "two"], "bind": bind}, **changes))

    def wants(self, places, bind, **changes):
        """Just these words are wanted: a word to be mended goes with each that touches, with none that shares."""
        self.taken(self.bound(bind, **changes))
        taken = {place + k for place in places for k in range(8)}
        near = {place + k for place in places for k in (-16, -8, -7, -1, 0, 1, 7, 8, 16)}
        for place in near:
            if 0 <= place <= 2 * PAGE - 8:
                file = self.bound(bind, mend=[0x11, 0x21] + sevens(place) + [0x51], **changes)
                if taken.intersection(range(place, place + 8)):
                    self.refused(file)
                else:
                    self.taken(file)


class End(BindCase):
    def test_at_its_end_or_at_step_0(self):
        self.taken(self.bound([]))
        self.taken(self.bound([0]))
        self.wants([0], READY + [0x90])
        self.wants([0], READY + [0x90, 0])
        self.wants([0], READY + [0x90] + [0] * 20)

    def test_only_zeros_behind_step_0(self):
        for byte in (0x01, 0x11, 0x51, 0x90, 0xFF):
            self.refused(self.bound(READY + [0x90, 0, byte]))
            self.refused(self.bound(READY + [0x90, 0, 0, 0, byte, 0]))

    def test_n_of_step_0(self):
        for n in range(1, 16):
            self.refused(self.bound([n]))


class Steps(BindCase):
    def test_others_there_are_not(self):
        for byte in list(range(0x30, 0x40)) + list(range(0xD0, 0x100)):
            # Whatever the step would be taken for, behind it stands what would be right.
            for behind in ([], [0], [1], [1, 0], text("a")):
                self.refused(self.bound(READY + [byte] + behind))

    def test_n_is_0_where_nothing_is_said(self):
        for step, behind in ((2, [1]), (4, text("a")), (6, [1]), (8, [8]), (9, []), (10, [0]), (12, [1, 0])):
            self.taken(self.bound(READY + [step * 16] + behind))
            for n in range(1, 16):
                self.refused(self.bound(READY + [step * 16 + n] + behind))

    def test_numbers_end_within_the_part(self):
        for before in ([0x20], [0x60], [0x71], [0x80], READY + [0xA0], READY + [0xC0, 1]):
            self.taken(self.bound(before + [0x01]))
            self.refused(self.bound(before))
            self.refused(self.bound(before + [0x81]))
            self.refused(self.bound(before, tree=[0, 0]))
        self.refused(self.bound(READY + [0xC0]))

    def test_1_tells_a_library(self):
        for n in (1, 2):
            self.wants([0], [0x51] + NAME + [0x71, 0, 0x10 + n, 0x90])
        for n in [0] + list(range(3, 16)):
            self.refused(self.bound([0x51] + NAME + [0x71, 0, 0x10 + n, 0x90]))
            self.taken(self.bound([0x51] + NAME + [0x71, 0, 0x10 + n]))
            self.taken(self.bound([0x51] + NAME + [0x71, 0, 0x10 + n, 0x11, 0x90]))
            self.refused(self.bound([0x51] + NAME + [0x71, 0, 0x11, 0x10 + n, 0x90]))

    def test_1_up_to_15(self):
        told = [0x51] + NAME + [0x71, 0, 0x1F, 0x90]
        self.taken(self.bound(told, libraries=["x"] * 15))
        self.refused(self.bound(told, libraries=["x"] * 14))

    def test_2_tells_a_library(self):
        told = [0x51] + NAME + [0x71, 0, 0x20]
        for number in (1, 2):
            self.wants([0], told + sevens(number) + [0x90])
        for number in (0, 3, 64, 256 + 1, (1 << 32) + 1, ALL - 1):
            self.refused(self.bound(told + sevens(number) + [0x90]))
            self.taken(self.bound(told + sevens(number)))
        self.taken(self.bound(told + [64, 0x90], libraries=["x"] * 64))
        self.refused(self.bound(told + [64, 0x90], libraries=["x"] * 63))

    def test_4_tells_a_name(self):
        for letters in ("a", "!", "~", "_name", "x" * 255):
            self.wants([0], [0x11, 0x51, 0x71, 0, 0x40] + text(letters) + [0x90])
        self.refused(self.bound([0x40] + text("x" * 256)))
        self.refused(self.bound([0x40] + text("")))
        for sign in (1, 32, 127, 128, 255):
            self.refused(self.bound([0x40, sign, 0]))
            self.refused(self.bound([0x40, 65, sign, 0]))

    def test_4_ends_within_the_part(self):
        self.taken(self.bound([0x40, 65, 65, 0]))
        self.refused(self.bound([0x40, 65, 65]))
        self.refused(self.bound([0x40, 65, 65], tree=[0, 0]))
        self.refused(self.bound([0x40]))

    def test_5_only_with_1(self):
        self.taken(self.bound([0x51]))
        for n in [0] + list(range(2, 16)):
            self.refused(self.bound([0x50 + n]))

    def test_6_tells_what_is_to_be_added(self):
        for number in ([0], [0x3F], [0x40], [0x7F], [0xFF, 0x00], [0x80] * 9 + [0], [0x80] * 9 + [1], [0xFF] * 9 + [1]):
            self.wants([0], READY + [0x60] + number + [0x90])
        for number in ([0x80] * 10, [0x80] * 10 + [0], [0xFF] * 10 + [0x7F], [0xFF] * 10 + [0x01]):
            self.refused(self.bound(READY + [0x60] + number + [0x90]))

    def test_6_refuses_no_number_for_how_much_it_comes_to(self):
        for last in (2, 3, 0x3F, 0x40, 0x41, 0x7E, 0x7F):
            for byte in (0x80, 0x85, 0xFF):
                self.wants([0], READY + [0x60] + [byte] * 9 + [last] + [0x90])

    def test_numbers_without_sign_are_below_2_to_the_64(self):
        for before in ([0x20], [0x71], [0x80], READY + [0xA0], READY + [0xC0, 1]):
            self.taken(self.bound(before + sevens(ALL - 1)))
            for number in (ALL, ALL + 5, 1 << 69, (1 << 70) - 1):
                self.refused(self.bound(before + sevens(number)))
        self.refused(self.bound(READY + [0xC0] + sevens(ALL) + [0]))
        self.refused(self.bound(READY + [0xC0] + sevens(ALL + 1) + [0]))

    def test_7_tells_the_place(self):
        self.wants([24], [0x11, 0x51] + NAME + [0x71, 24, 0x90])
        self.wants([24], [0x11, 0x51] + NAME + [0x70] + sevens(PAGE + 24) + [0x90])
        self.wants([0], far(ALL - 8) + [0x80, 8, 0x90])

    def test_7_asks_for_a_segment_that_is_laid(self):
        self.taken(self.bound([0x70, 0, 0x71, 0]))
        for n in range(2, 16):
            self.refused(self.bound([0x70 + n, 0]))
        rows = [bare(), code(), data()]
        self.refused(self.bound([0x70, 0], segments=rows))
        self.taken(self.bound([0x11, 0x51] + NAME + [0x72, 0, 0x90], segments=rows))
        self.refused(self.bound([0x73, 0], segments=rows))

    def test_8_goes_on(self):
        self.wants([12], READY + [0x80, 5, 0x80, 7, 0x90])
        self.wants([8], READY + [0x80, 16, 0x80] + sevens(ALL - 8) + [0x90])
        self.wants([8], [0x80, 5, 0x80, 3] + far(8) + [0x90])

    def test_9_does_a_word(self):
        self.wants([0], READY + [0x90])
        self.wants([0, 8, 16], READY + [0x90, 0x90, 0x90])

    def test_10_does_a_word_with_so_much_between(self):
        self.wants([0, 19], READY + [0xA0, 11, 0x90])
        self.wants([16, 8], far(16) + [0xA0] + sevens(ALL - 16) + [0x90])
        self.taken(self.bound(READY + [0xA0] + sevens(ALL - 8)))

    def test_11_does_a_word_with_words_between(self):
        for n in range(16):
            self.wants([0, 8 + 8 * n], READY + [0xB0 + n, 0x90])

    def test_12_does_so_many_with_so_much_between(self):
        self.wants([0, 8, 16], READY + [0xC0, 3, 0])
        self.wants([0, 109, 218], READY + [0xC0, 2, 101, 0x90])
        self.wants([80, 60, 40], far(80) + [0xC0, 2] + sevens(ALL - 28) + [0x90])
        self.wants([0], READY + [0xC0, 0, 101, 0x90])
        self.wants([0], READY + [0xC0, 1] + sevens(ALL - 8))

    def test_what_is_told_stays_told(self):
        self.wants([0, 8, 40], READY + [0x90, 0x12, 0x90, 0x40] + text("other") + [0x71, 40, 0x90])


class Doing(BindCase):
    ways = ([0x90], [0xA0, 0], [0xB0], [0xC0, 0, 0], [0xC0, 1, 0])

    def needs(self, *missing):
        told = {"library": [0x11], "type": [0x51], "name": NAME, "place": [0x71, 0]}
        return [byte for what, step in told.items() if what not in missing for byte in step]

    def test_all_has_to_have_been_told(self):
        for way in self.ways:
            self.taken(self.bound(self.needs() + way))
            for what in ("library", "type", "name", "place"):
                self.refused(self.bound(self.needs(what) + way))
                self.refused(self.bound(self.needs(what) + way + self.needs()))

    def test_going_on_tells_no_place(self):
        rows = [code(rights=7), data()]
        for way in self.ways:
            self.refused(self.bound(self.needs("place") + [0x80] + sevens(PAGE) + way, segments=rows))

    def test_without_libraries(self):
        self.taken(self.bound(READY, libraries=[]))
        for way in self.ways:
            self.refused(self.bound(READY + way, libraries=[]))

    def test_what_the_other_program_told_is_not_told_here(self):
        mend = [0x11, 0x21, 0]
        self.refused(self.bound(self.needs("type") + [0x90], mend=mend))
        self.refused(self.bound(self.needs("place") + [0x90], mend=mend))

    def test_a_word_is_within_a_segment_that_may_be_written(self):
        self.wants([2 * PAGE - 8], far(2 * PAGE - 8) + [0x90])
        for place in (2 * PAGE - 7, 2 * PAGE, ALL - 8, ALL - 1):
            self.refused(self.bound(far(place) + [0x90]))
        for rights in (0, 1, 4, 5):
            self.refused(self.bound(READY + [0x90], segments=[code(), data(rights=rights)]))
        for rights in (2, 3, 6, 7):
            self.taken(self.bound(READY + [0x90], segments=[code(), data(rights=rights)]))

    def test_a_word_is_not_in_the_room_between_two(self):
        rows = [code(), data(size=PAGE), data(place=HOME + 3 * PAGE, size=PAGE)]
        for place in (0, PAGE - 8, 2 * PAGE, 3 * PAGE - 8):
            self.taken(self.bound(far(place) + [0x90], segments=rows))
        for place in (PAGE - 7, PAGE, PAGE + 8, 2 * PAGE - 8, 2 * PAGE - 1, 3 * PAGE - 7):
            self.refused(self.bound(far(place) + [0x90], segments=rows))
        self.taken(self.bound(READY + [0xC0, 2] + sevens(2 * PAGE - 8), segments=rows))
        self.refused(self.bound(READY + [0xC0, 3] + sevens(PAGE - 8), segments=rows))

    def test_of_no_words_the_place_may_be_anywhere(self):
        self.taken(self.bound(far(ALL - 1) + [0xC0, 0] + sevens(ALL - 1)))

    def test_65536_words_at_most(self):
        self.taken(self.bound(READY + [0xC0] + sevens(65536) + [0], segments=WIDE))
        self.refused(self.bound(READY + [0xC0] + sevens(65537) + [0], segments=WIDE))
        self.refused(self.bound(READY + [0xC0] + sevens(ALL - 1) + [0], segments=WIDE))


class Apart(BindCase):
    def test_words_that_touch_and_words_that_share_a_byte(self):
        for place in range(1, 16):
            self.refused(self.bound(far(8) + [0x90, 0x71, place, 0x90]))
        for place in (0, 16):
            self.taken(self.bound(far(8) + [0x90, 0x71, place, 0x90]))

    def test_a_word_that_is_mended_and_one_that_is_wanted(self):
        for place in range(1, 16):
            self.refused(self.bound(far(8) + [0x90], mend=[0x11, 0x21, place, 0x51]))
        for place in (0, 16):
            self.taken(self.bound(far(8) + [0x90], mend=[0x11, 0x21, place, 0x51]))

    def test_no_more_than_an_image_has(self):
        half = sevens(65536) + [0]
        mend = [0x11, 0x21, 0] + ([0x80] + half) * 4
        bind = far(4 * 524288) + ([0xC0] + half) * 3 + [0xC0] + sevens(65536 - 512) + [0]
        self.taken(self.bound(bind, mend=mend, segments=WIDE))
        self.refused(self.bound(bind + [0x71, 0, 0x90], mend=mend, segments=WIDE))
        self.refused(self.bound(bind[:-5], mend=mend + [0x51], segments=WIDE))


class Signed(unittest.TestCase):
    """The numbers with sign, read by themselves."""

    def value(self, row):
        return Cursor(row, 0).signed_sevens()

    def test_values(self):
        self.assertEqual(self.value([0]), 0)
        self.assertEqual(self.value([0x3F]), 63)
        self.assertEqual(self.value([0x40]), ALL - 64)
        self.assertEqual(self.value([0x7F]), ALL - 1)
        self.assertEqual(self.value([0xFF, 0x00]), 127)
        self.assertEqual(self.value([0x80, 0x7F]), ALL - 128)
        self.assertEqual(self.value([0x80, 0x40]), ALL - 8192)
        self.assertEqual(self.value([0x80] * 8 + [0x40]), ALL - (1 << 62))
        self.assertEqual(self.value([0xFF] * 9 + [0x01]), ALL - 1)
        self.assertEqual(self.value([0xFF] * 9 + [0x00]), (1 << 63) - 1)

    def test_less_2_to_the_70(self):
        self.assertEqual(self.value([0xFF] * 9 + [0x7F]), ALL - 1)
        self.assertEqual(self.value([0x80] * 9 + [0x7F]), 1 << 63)
        self.assertEqual(self.value([0xC0] + [0xFF] * 8 + [0x7F]), ALL - 64)
        self.assertEqual(self.value([0x83] + [0x80] * 8 + [0x40]), 3)

    def test_modulo_2_to_the_64(self):
        self.assertEqual(self.value([0x85] + [0x80] * 8 + [0x02]), 5)
        self.assertEqual(self.value([0x85] + [0x80] * 8 + [0x03]), (1 << 63) + 5)
        self.assertEqual(self.value([0xFF] * 9 + [0x3F]), ALL - 1)

    def test_ten_bytes_at_most(self):
        for row in ([0x80] * 10 + [0], [0xFF] * 10 + [0x7F], [0x80] * 10, [0xFF]):
            with self.assertRaises(BadFile):
                self.value(row)


if __name__ == "__main__":
    unittest.main()
