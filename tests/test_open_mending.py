"""Promise 2: open, as far as the program that mends is told."""

import unittest

from building import (
    ALL, DATA, HOME, PAGE, SHIFT, FileCase, ask, bare, code, data, file_of, lay, le, read, sevens, take, text,
)

READY = [0x11, 0x21, 0]
WIDE = [code(), data(size=4194304 - PAGE)]


def far(place):
    return [0x11, 0x21] + sevens(place)


class Numbers(FileCase):
    """Numbers by sevens, as step 3 and others take them."""

    def test_of_one_byte_and_more(self):
        for place in (0, 1, 127, 128, 129, 255, 256, 8184):
            self.mends([place], file_of(mend=far(place) + [0x51]))

    def test_zeros_above(self):
        for length in range(1, 11):
            self.mends([16], file_of(mend=[0x11, 0x21] + sevens(16, length) + [0x51]))

    def test_ten_bytes_at_most(self):
        self.taken(file_of(mend=[0x30] + sevens(0, 10)))
        self.refused(file_of(mend=[0x30] + sevens(0, 11)))
        self.refused(file_of(mend=[0x30] + [0x80] * 10))

    def test_below_2_to_the_64(self):
        self.taken(file_of(mend=[0x30] + sevens(ALL - 1)))
        self.refused(file_of(mend=[0x30] + sevens(ALL)))
        self.refused(file_of(mend=[0x30] + sevens(2 * ALL - 1)))
        self.refused(file_of(mend=[0x30] + sevens((1 << 70) - 1)))

    def test_they_end_within_the_part(self):
        for before in ([0x30], [0x21], READY + [0x60], READY + [0x70], READY + [0x80, 1]):
            self.taken(file_of(mend=before + [0x01]))
            self.refused(file_of(mend=before))
            self.refused(file_of(mend=before + [0x81]))
            self.refused(file_of(mend=before, tree=[0, 0]))
            self.refused(file_of(mend=before + [0x80], tree=[0, 0]))
        self.refused(file_of(mend=READY + [0x80]))


class End(FileCase):
    def test_an_empty_program(self):
        self.mends([], file_of(mend=[]))

    def test_at_its_end_or_at_step_0(self):
        self.mends([0], file_of(mend=READY + [0x51]))
        self.mends([0], file_of(mend=READY + [0x51, 0]))
        self.mends([0], file_of(mend=READY + [0x51] + [0] * 20))
        self.mends([], file_of(mend=[0]))

    def test_only_zeros_behind_step_0(self):
        for byte in (0x01, 0x11, 0x51, 0xFF):
            self.refused(file_of(mend=READY + [0x51, 0, byte]))
            self.refused(file_of(mend=READY + [0x51, 0, 0, 0, byte, 0]))

    def test_n_of_step_0(self):
        for n in range(1, 16):
            self.refused(file_of(mend=[n]))


class Steps(FileCase):
    def test_others_there_are_not(self):
        for byte in range(0x90, 0x100):
            # Whatever the step would be taken for, behind it stands what would be right.
            for behind in ([], [0], [1], [1, 0], text("a")):
                self.refused(file_of(mend=READY + [byte] + behind))

    def test_n_is_0_where_nothing_is_said(self):
        for step, numbers in ((3, [8]), (6, [1]), (7, [0]), (8, [1, 0])):
            self.taken(file_of(mend=READY + [step * 16] + numbers))
            for n in range(1, 16):
                self.refused(file_of(mend=READY + [step * 16 + n] + numbers))

    def test_1_only_with_1(self):
        self.taken(file_of(mend=[0x11]))
        for n in [0] + list(range(2, 16)):
            self.refused(file_of(mend=[0x10 + n]))

    def test_2_counts_all_segments(self):
        self.mends([24], file_of(segments=[bare(), code(), data()], mend=[0x11, 0x22, 24, 0x51]))
        self.mends([24], file_of(mend=[0x11, 0x20] + sevens(DATA + 24) + [0x51]))

    def test_2_asks_for_a_segment_that_is_laid(self):
        self.taken(file_of(mend=[0x20, 0, 0x21, 0]))
        for n in range(2, 16):
            self.refused(file_of(mend=[0x20 + n, 0]))
        rows = [bare(), code(), data()]
        self.refused(file_of(segments=rows, mend=[0x20, 0]))
        self.taken(file_of(segments=rows, mend=[0x22, 0]))
        self.refused(file_of(segments=rows, mend=[0x23, 0]))

    def test_2_into_a_later_segment_without_bytes_and_rights(self):
        self.taken(file_of(segments=[code(), data(rights=0)], mend=[0x21, 0]))

    def test_2_up_to_segment_15(self):
        rows = [code()] + [data(place=HOME + k * PAGE, size=PAGE) for k in range(1, 16)]
        self.mends([14 * PAGE + 8], file_of(segments=rows, mend=[0x11, 0x2F, 8, 0x51]), 15 * PAGE)

    def test_2_again(self):
        self.mends([8, 40], file_of(mend=far(40) + [0x51, 0x21, 8, 0x51]))

    def test_2_is_modulo_2_to_the_64(self):
        self.mends([0], file_of(mend=far(ALL - 8) + [0x30, 8, 0x51]))
        rows = [code(rights=7), data()]
        file = file_of(segments=rows, mend=far(ALL - 16) + [0x51])
        self.assertEqual(ask(take(file), lay(HOME + SHIFT), read(DATA - 16, 16)),
                         [[0], [0], [16] + le(SHIFT, 8) + [0] * 8])

    def test_3_goes_on(self):
        self.mends([12], file_of(mend=READY + [0x30, 5, 0x30, 7, 0x51]))
        self.mends([8], file_of(mend=READY + [0x30, 16, 0x30] + sevens(ALL - 8) + [0x51]))

    def test_3_and_4_may_stand_ahead_of_2(self):
        self.mends([8], file_of(mend=[0x11, 0x30, 5, 0x43, 0x21, 8, 0x51]))

    def test_4_goes_on_by_words(self):
        for n in range(16):
            self.mends([8 * n], file_of(mend=READY + [0x40 + n, 0x51]))

    def test_5_does_n_words(self):
        for n in range(16):
            self.mends([8 * k for k in range(n)], file_of(mend=READY + [0x50 + n]))
        self.mends([0, 8, 24], file_of(mend=READY + [0x52, 0x41, 0x51]))

    def test_6_does_so_many(self):
        for count in (0, 1, 2, 200, 1024):
            self.mends([8 * k for k in range(count)], file_of(mend=READY + [0x60] + sevens(count)))
        self.refused(file_of(mend=READY + [0x60] + sevens(1025)))
        self.mends([0, 8, 24], file_of(mend=READY + [0x60, 2, 0x41, 0x51]))

    def test_7_does_one_with_so_much_between(self):
        self.mends([0, 11], file_of(mend=READY + [0x70, 3, 0x51]))
        self.mends([0, 24], file_of(mend=READY + [0x70, 16, 0x51]))
        self.mends([16, 8], file_of(mend=far(16) + [0x70] + sevens(ALL - 16) + [0x51]))
        self.taken(file_of(mend=READY + [0x70] + sevens(ALL - 1)))
        self.taken(file_of(mend=READY + [0x70] + sevens(ALL - 8)))

    def test_8_does_so_many_with_so_much_between(self):
        self.mends([0, 8, 16], file_of(mend=READY + [0x80, 3, 0]))
        self.mends([0, 9, 18, 27], file_of(mend=READY + [0x80, 3, 1, 0x51]))
        self.mends([5, 105, 205], file_of(mend=far(5) + [0x80, 3, 92]))
        self.mends([], file_of(mend=READY + [0x80, 0, 92]))
        self.mends([5], file_of(mend=far(5) + [0x80, 1] + sevens(ALL - 8)))

    def test_8_may_go_back(self):
        self.mends([80, 70, 60, 50], file_of(mend=far(80) + [0x80, 3] + sevens(ALL - 18) + [0x51]))
        self.mends([16, 8, 0], file_of(mend=far(16) + [0x80, 3] + sevens(ALL - 16)))
        self.refused(file_of(mend=far(16) + [0x80, 4] + sevens(ALL - 16)))

    def test_8_word_by_word_over_edges(self):
        rows = [code(rights=7), data(size=PAGE), data(place=HOME + 2 * PAGE, size=PAGE, rights=1),
                data(place=HOME + 3 * PAGE, size=PAGE)]
        # From one page into the next but one and back again: the one between may not be written.
        self.mends([0, 2 * PAGE], file_of(segments=rows, mend=far(0) + [0x80, 2] + sevens(2 * PAGE - 8)), 3 * PAGE)
        self.refused(file_of(segments=rows, mend=far(0) + [0x80, 3] + sevens(PAGE - 8)))
        self.refused(file_of(segments=rows, mend=far(0) + [0x80, 2] + sevens(PAGE - 8)))
        self.refused(file_of(segments=rows, mend=far(0) + [0x80, 2] + sevens(PAGE - 9)))
        self.refused(file_of(segments=rows, mend=far(0) + [0x80, 2] + sevens(3 * PAGE - 9 - 6)))
        self.mends([0, 3 * PAGE - 8],
                   file_of(segments=rows, mend=far(0) + [0x80, 2] + sevens(3 * PAGE - 16)), 3 * PAGE)

    def test_a_run_of_words_never_lies_over_an_edge(self):
        rows = [code(), data(size=PAGE), data(place=HOME + 2 * PAGE)]
        self.taken(file_of(segments=rows, mend=READY + [0x60] + sevens(513)))
        self.refused(file_of(segments=rows, mend=far(4) + [0x60] + sevens(513)))
        self.taken(file_of(segments=rows, mend=far(4) + [0x60] + sevens(511)))
        self.refused(file_of(segments=rows, mend=far(4) + [0x60] + sevens(512)))

    def test_a_run_over_the_room_between_two(self):
        rows = [code(), data(size=PAGE), data(place=HOME + 4 * PAGE, size=PAGE)]
        over = sevens(3 * PAGE - 8)
        self.mends([0, 3 * PAGE], file_of(segments=rows, mend=READY + [0x80, 2] + over), 4 * PAGE)
        self.mends([16, 3 * PAGE + 16, 24], file_of(segments=rows, mend=far(16) + [0x80, 2] + over + [0x21, 24, 0x51]),
                   4 * PAGE)
        self.refused(file_of(segments=rows, mend=READY + [0x80, 2] + sevens(3 * PAGE - 9)))
        self.refused(file_of(segments=rows, mend=READY + [0x80, 4] + sevens(PAGE - 8)))
        self.refused(file_of(segments=rows, mend=READY + [0x60] + sevens(513)))


class Doing(FileCase):
    ways = ([0x50], [0x51], [0x60, 0], [0x60, 1], [0x70, 0], [0x80, 0, 0], [0x80, 1, 0])

    def test_the_type_has_to_have_been_told(self):
        for way in self.ways:
            self.taken(file_of(mend=[0x21, 0, 0x11] + way))
            self.refused(file_of(mend=[0x21, 0] + way))
            self.refused(file_of(mend=[0x21, 0] + way + [0x11]))

    def test_the_place_has_to_have_been_told(self):
        rows = [code(rights=7)]
        for way in self.ways:
            self.taken(file_of(segments=rows, mend=[0x11, 0x20] + sevens(PAGE - 8) + way))
            self.refused(file_of(segments=rows, mend=[0x11] + way))
            self.refused(file_of(segments=rows, mend=[0x11, 0x30] + sevens(PAGE - 8) + way))
            self.refused(file_of(segments=rows, mend=[0x11, 0x41] + way))

    def test_of_no_words_the_place_may_be_anywhere(self):
        for way in ([0x50], [0x60, 0], [0x80, 0] + sevens(ALL - 1)):
            self.taken(file_of(mend=far(ALL - 1) + way))
            self.taken(file_of(mend=[0x11, 0x20, 0] + way))

    def test_65536_words_at_most(self):
        for way in ([0x60], [0x80]):
            behind = [0] if way == [0x80] else []
            self.taken(file_of(segments=WIDE, mend=READY + way + sevens(65536) + behind))
            self.refused(file_of(segments=WIDE, mend=READY + way + sevens(65537) + behind))
            self.refused(file_of(segments=WIDE, mend=READY + way + sevens(ALL - 1) + behind))

    def test_as_many_words_as_an_image_has(self):
        whole = READY + ([0x60] + sevens(65536)) * 7 + [0x60] + sevens(65536 - 512)
        file = file_of(segments=WIDE, mend=whole)
        found = ask(take(file), lay(HOME + SHIFT), read(4194304 - 80, 100))
        self.assertEqual(found, [[0], [0], [80] + le(SHIFT, 8) * 10])
        self.refused(file_of(segments=WIDE, mend=whole + [0x51]))
        self.refused(file_of(segments=WIDE, mend=whole + [0x21, 0, 0x51]))

    def test_every_byte_of_an_image_in_a_word(self):
        rows = [code(rights=7)]
        file = file_of(segments=rows, mend=[0x11, 0x20, 0, 0x60] + sevens(512))
        found = ask(take(file), lay(HOME + PAGE), read(0, 8), read(PAGE - 8, 8))
        value = int.from_bytes(bytes(file[:8]), "little")
        self.assertEqual(found, [[0], [0], [8] + le(value + PAGE, 8), [8] + le(PAGE, 8)])
        self.refused(file_of(segments=rows, mend=[0x11, 0x20, 0, 0x60] + sevens(513)))

    def test_many_words_again_and_again(self):
        self.refused(file_of(segments=WIDE, mend=[0x11] + ([0x21, 0, 0x60] + sevens(65536)) * 2000))


class Apart(FileCase):
    def test_words_that_touch(self):
        self.mends([8, 16], file_of(mend=far(8) + [0x51, 0x21, 16, 0x51]))
        self.mends([16, 8], file_of(mend=far(16) + [0x51, 0x21, 8, 0x51]))

    def test_words_that_share_a_byte(self):
        for other in list(range(1, 8)) + list(range(9, 16)):
            self.refused(file_of(mend=far(8) + [0x51, 0x21, other, 0x51]))

    def test_a_word_that_is_done_twice(self):
        self.refused(file_of(mend=far(8) + [0x51, 0x21, 8, 0x51]))

    def test_runs_that_share_a_byte_with_themselves(self):
        for between in range(ALL - 15, ALL):
            self.refused(file_of(mend=far(64) + [0x80, 2] + sevens(between)))
        self.taken(file_of(mend=far(64) + [0x80, 2] + sevens(ALL - 16)))

    def test_runs_between_one_another(self):
        self.mends([0, 16, 32, 8, 24, 40], file_of(mend=READY + [0x80, 3, 8, 0x21, 8, 0x80, 3, 8]))
        self.refused(file_of(mend=READY + [0x80, 3, 8, 0x21, 8, 0x80, 3, 9]))
        self.refused(file_of(mend=READY + [0x80, 3, 8, 0x21, 32, 0x51]))


if __name__ == "__main__":
    unittest.main()
