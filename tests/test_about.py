"""Promise 8: about."""

import unittest

from building import (
    ALL, HOME, LEAF, NONE, PAGE, SHIFT, TOP, FileCase, about, ask, bare, chain, code, data, fill, file_of, find, forest,
    lay, node, sevens, take, text,
)

READY = [0x11, 0x51, 0x40] + text("name") + [0x71, 0]
WIDE = [code(), data(size=4194304 - PAGE)]


class AboutCase(FileCase):
    def tells(self, file, laid=2, lies=HOME, length=3 * PAGE, begins=0, mended=0, wanted=0, names=0):
        found = ask(take(file), about())
        self.assertEqual(found, [[0], [laid, lies, length, begins, mended, wanted, names]])


class Ground(AboutCase):
    def test_a_small_file(self):
        self.tells(file_of())

    def test_each_number_in_its_place(self):
        rows = [bare(), code(), data(), data(place=HOME + 3 * PAGE)]
        mend = [0x11, 0x22, 0, 0x55]
        bind = [0x11, 0x51, 0x40] + text("n") + [0x73, 0, 0xC0, 4, 0]
        file = file_of(segments=rows, libraries=["lib"], beginning=300, mend=mend, bind=bind, tree=forest("a", "b"))
        self.tells(file, 3, HOME, 5 * PAGE, 300, 5, 4, 2)

    def test_without_the_command_of_the_parts(self):
        self.tells(file_of(told_parts=False))
        self.tells(file_of(told_parts=False, beginning=40), begins=40)

    def test_with_a_first_segment_that_is_not_laid(self):
        self.tells(file_of(segments=[bare(), code(), data()]))
        self.tells(file_of(segments=[bare(size=0), code()]), laid=1, length=PAGE)

    def test_a_segment_without_bytes_and_rights_that_is_not_the_first(self):
        self.tells(file_of(segments=[code(), bare(place=HOME + PAGE, size=PAGE), data(place=HOME + 2 * PAGE)]), laid=3,
                   length=4 * PAGE)

    def test_how_many_segments_are_laid(self):
        for count in range(1, 17):
            rows = [code()] + [data(place=HOME + k * PAGE, size=PAGE) for k in range(1, count)]
            self.tells(file_of(segments=rows), laid=count, length=count * PAGE)
            self.tells(file_of(segments=[bare()] + rows), laid=count, length=count * PAGE)

    def test_how_long(self):
        self.tells(file_of(segments=[code()]), laid=1, length=PAGE)
        self.tells(file_of(segments=[code(size=5 * PAGE)]), laid=1, length=5 * PAGE)
        self.tells(file_of(segments=WIDE), length=4194304)

    def test_with_room_between_segments(self):
        self.tells(file_of(segments=[code(), data(place=HOME + 3 * PAGE, size=PAGE)]), length=4 * PAGE)
        far = data(place=HOME + 4194304 - PAGE, size=PAGE)
        self.tells(file_of(segments=[bare(), code(), data(), far]), laid=3, length=4194304)

    def test_room_behind_a_first_segment_that_is_not_laid(self):
        self.tells(file_of(segments=[bare(size=PAGE), code(), data()]))

    def test_where_it_begins_to_run(self):
        self.tells(file_of(beginning=0), begins=0)
        self.tells(file_of(beginning=1), begins=1)
        rows = [code(filled=PAGE), data()]
        self.tells(file_of(segments=rows, beginning=PAGE - 1, body=[0]), begins=PAGE - 1)

    def test_where_it_begins_to_run_stays_where_it_is_in_the_file(self):
        found = ask(take(file_of(segments=[bare(), code(), data()], beginning=77)), lay(HOME + SHIFT), about())
        self.assertEqual(found[2], [2, HOME + SHIFT, 3 * PAGE, 77, 0, 0, 0])


class Lies(AboutCase):
    def test_at_its_own_place_at_first(self):
        for home in (0, PAGE, HOME, TOP - 4 * PAGE):
            self.tells(file_of(segments=[code(place=home), data(place=home + PAGE)]), lies=home)

    def test_behind_lay(self):
        last = TOP - 4194304 - PAGE
        bases = [HOME + SHIFT, 0, PAGE, last, HOME]
        calls = [call for base in bases for call in (lay(base), about())]
        found = ask(take(file_of()), *calls)
        self.assertEqual(found[1::2], [[0]] * 5)
        self.assertEqual(found[2::2], [[2, base, 3 * PAGE, 0, 0, 0, 0] for base in bases])

    def test_behind_a_lay_that_is_refused(self):
        found = ask(take(file_of()), lay(HOME + PAGE), lay(HOME + 1), lay(TOP), lay(ALL - PAGE), about())
        self.assertEqual(found, [[0], [0], [-1], [-1], [-1], [2, HOME + PAGE, 3 * PAGE, 0, 0, 0, 0]])

    def test_a_new_image(self):
        file = file_of(segments=[code(place=PAGE), data(place=2 * PAGE, size=PAGE)], beginning=9)
        found = ask(take(file_of(tree=forest("a"))), lay(0), take(file), about())
        self.assertEqual(found[3], [2, PAGE, 2 * PAGE, 9, 0, 0, 0])


class Words(AboutCase):
    def test_mended(self):
        for mend, count in (([], 0), ([0], 0), ([0x11, 0x21, 0], 0), ([0x11, 0x21, 0, 0x50], 0),
                            ([0x11, 0x21, 0, 0x51], 1), ([0x11, 0x21, 0, 0x5F], 15),
                            ([0x11, 0x21, 0, 0x51, 0x70, 9, 0x52], 4),
                            ([0x11, 0x21, 0, 0x60] + sevens(500), 500), ([0x11, 0x21, 0, 0x80, 100, 3, 0x53], 103)):
            self.tells(file_of(mend=mend), mended=count)

    def test_wanted(self):
        for bind, count in ((READY, 0), (READY + [0xC0, 0, 0], 0), (READY + [0x90], 1), (READY + [0xBF, 0x90], 2),
                            (READY + [0xA0, 1, 0xA0, 2, 0x90], 3), (READY + [0xC0, 100, 3, 0x90], 101)):
            self.tells(file_of(libraries=["lib"], bind=bind), wanted=count)

    def test_mended_and_wanted(self):
        bind = READY + [0x71, 80, 0xC0, 5, 0]
        self.tells(file_of(libraries=["lib"], bind=bind, mend=[0x11, 0x21, 0, 0x53]), mended=3, wanted=5)

    def test_words_that_go_back(self):
        mend = [0x11, 0x21, 80, 0x80, 4] + sevens(ALL - 28)
        bind = READY + [0x71] + sevens(180) + [0xC0, 3] + sevens(ALL - 28)
        self.tells(file_of(libraries=["lib"], bind=bind, mend=mend), mended=4, wanted=3)

    def test_as_many_as_an_image_has(self):
        half = sevens(65536) + [0]
        mend = [0x11, 0x21, 0] + ([0x80] + half) * 4
        bind = READY + [0x71] + sevens(4 * 524288) + ([0xC0] + half) * 3 + [0xC0] + sevens(65536 - 512) + [0]
        file = file_of(libraries=["lib"], bind=bind, mend=mend, segments=WIDE)
        self.tells(file, length=4194304, mended=4 * 65536, wanted=4 * 65536 - 512)

    def test_fill_changes_no_number(self):
        file = file_of(libraries=["lib"], bind=READY + [0x90, 0x90], mend=[0x11, 0x21, 80, 0x51])
        found = ask(take(file), fill(0, 5), about(), fill(0, 6), fill(7, 7), about())
        self.assertEqual([found[2], found[5]], [[2, HOME, 3 * PAGE, 0, 1, 2, 0]] * 2)


class Names(AboutCase):
    def test_none(self):
        self.tells(file_of(tree=[]), names=0)
        self.tells(file_of(tree=[0, 0]), names=0)
        self.tells(file_of(tree=chain("a", "b", leaf=node(NONE))), names=0)

    def test_nodes_that_stand_for_a_place_alone_count(self):
        self.tells(file_of(tree=chain("a", "b", "c")), names=1)
        self.tells(file_of(tree=node(NONE, ("a", 10), ("a", 14)) + LEAF + [0, 0]), names=1)

    def test_names_for_one_place_count_each(self):
        self.tells(file_of(tree=forest("a", "b", "c")), names=3)
        self.tells(file_of(tree=forest(*[f"n{k}" for k in range(255)])), names=255)

    def test_find_changes_no_number(self):
        found = ask(take(file_of(tree=forest("a", "b"))), find("a"), find("c"), about())
        self.assertEqual(found[3], [2, HOME, 3 * PAGE, 0, 0, 0, 2])


class NoImage(AboutCase):
    def test_no_image(self):
        self.assertEqual(ask(about(), take([1]), about()), [[-4], [-1], [-4]])
        self.assertEqual(ask(take(file_of()), [0], about()), [[0], [0], [-4]])


if __name__ == "__main__":
    unittest.main()
