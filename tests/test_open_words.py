"""Promise 2: open, as far as "Words" tells a file's form."""

import unittest

from building import (
    ALL, DATA, HOME, PAGE, TOP, FileCase, Plan, ask, bare, beginning, code, command, data, file_of,
    le, library, parts, read, segment, sevens, take, text,
)

OTHER_KINDS = (
    0, 1, 2, 0x18, 0x1A, 0xD, 0x22, 0x28, 0x119, 0x10C, 0x01000019, 0x0100000C, 0x80000019, 0x8000000C, 0x80000018,
    0x80000023, 0x80000027, 0x80000029, 0x81000022, 0xFFFFFFFF,
)


class Whole(FileCase):
    def test_a_small_file(self):
        file = file_of()
        self.assertEqual(ask(take(file), read(0, 20000)), [[0], [12288] + file + [0] * (12288 - len(file))])

    def test_without_parts(self):
        file = file_of(told_parts=False)
        self.assertEqual(ask(take(file), read(0, 20000)), [[0], [12288] + file + [0] * (12288 - len(file))])

    def test_a_first_segment_that_is_not_laid(self):
        file = file_of(segments=[bare(), code(), data()])
        self.assertEqual(ask(take(file), read(0, 20000)), [[0], [12288] + file + [0] * (12288 - len(file))])

    def test_a_file_takes_the_place_of_another(self):
        one = file_of()
        other = file_of(segments=[code(size=2 * PAGE)], libraries=["other"])
        found = ask(take(one), take(other), read(0, 20000))
        self.assertEqual(found, [[0], [0], [8192] + other + [0] * (8192 - len(other))])

    def test_nothing_at_all(self):
        self.refused([])

    def test_1048576_bytes_at_most(self):
        # No list of calls may hold so many; the bound is held all the same.
        file = file_of()
        self.taken(file + [0] * (1048576 - len(file)))
        self.refused(file + [0] * (1048577 - len(file)))


class Head(FileCase):
    def test_what_stands_at_0_and_4(self):
        for at in range(8):
            file = file_of()
            file[at] ^= 1
            self.refused(file)

    def test_kinds_of_files(self):
        for kind in (2, 6, 8):
            self.taken(file_of(head={"kind": kind}))
        for kind in (0, 1, 3, 4, 5, 7, 9, 2 + 256, 6 + (1 << 24)):
            self.refused(file_of(head={"kind": kind}))

    def test_what_is_not_told_of_may_be_anything(self):
        for at in (8, 9, 10, 11, 24, 27, 28, 31):
            file = file_of()
            file[at] = 255
            self.taken(file)

    def test_all_four_bytes_of_its_numbers_count(self):
        for at in (16, 17, 18, 19, 20, 21, 22, 23):
            file = file_of()
            file[at] ^= 0x80
            self.refused(file)

    def test_a_head_that_is_cut(self):
        for length in (1, 4, 16, 20, 24, 31, 32):
            self.refused(file_of()[:length])

    def test_no_commands(self):
        self.refused(file_of(segments=[], told_parts=False))

    def test_how_many_commands(self):
        self.taken(file_of(extra=[command(1, [])] * 253))
        self.refused(file_of(extra=[command(1, [])] * 254))

    def test_commands_are_as_many_as_are_told(self):
        self.taken(file_of(extra=[command(1, []), command(1, [])]))
        self.refused(file_of(extra=[command(1, []), command(1, [])], count=-1))
        self.refused(file_of(extra=[command(1, []), command(1, [])], count=1))
        self.refused(file_of(extra=[command(1, [])], count=1, mend=command(1, []), rows={0: (0, 0)}))

    def test_commands_have_as_many_bytes_as_are_told(self):
        for change in (-8, -4, -1, 1, 4, 8):
            self.refused(file_of(extra=[command(1, [])], size=change, tree=[0, 0] + [0] * 14))

    def test_commands_are_within_the_file(self):
        plan = Plan(segments=[code(rights=7), data()])
        self.taken(plan.file())
        self.refused(plan.file()[:-1])
        self.refused(file_of(told_parts=False, extra=[command(1, [0] * 8)])[:-8])


class Commands(FileCase):
    def test_lengths(self):
        self.taken(file_of(extra=[command(1, [])]))
        self.taken(file_of(extra=[command(1, [0] * 9)]))
        for length in (0, 4, 7):
            self.refused(file_of(extra=[le(1, 4) + le(length, 4)]))
        for length in (9, 12, 20):
            self.refused(file_of(extra=[command(1, [], length)]))

    def test_all_four_bytes_of_a_length_count(self):
        for at in (4, 5, 6, 7):
            made = command(1, [0] * 8)
            made[at] += 1
            self.refused(file_of(extra=[made]))

    def test_a_length_over_the_end(self):
        self.refused(file_of(extra=[le(1, 4) + le(16, 4)], tree=[0] * 8))
        self.refused(file_of(extra=[le(1, 4) + le(0xFFFFFFF8, 4)]))

    def test_a_command_that_is_cut_by_the_end_of_all(self):
        self.refused(file_of(extra=[command(1, []), le(1, 4)], tree=le(8, 4)))

    def test_other_kinds_are_passed_over(self):
        for kind in OTHER_KINDS:
            self.taken(file_of(extra=[command(kind, [255] * 64), command(kind, [])]))


class Segments(FileCase):
    def only(self, **changes):
        return file_of(segments=[code(**changes)])

    def test_places_are_multiples_of_4096(self):
        self.taken(self.only(place=HOME + PAGE))
        for off in (1, 8, 256, 2048, 4095):
            self.refused(self.only(place=HOME + off))
            self.refused(file_of(segments=[bare(place=off), code()]))

    def test_sizes_are_multiples_of_4096(self):
        self.taken(self.only(size=2 * PAGE))
        for off in (1, 8, 256, 2048, 4095):
            self.refused(self.only(size=PAGE + off))
            self.refused(file_of(segments=[bare(size=off), code()]))

    def test_places_in_the_file_are_multiples_of_4096(self):
        self.taken(file_of(segments=[code(), data(source=PAGE, filled=8)], body=[1] * 8))
        for off in (1, 8, 256, 2048, 4095):
            self.refused(file_of(segments=[code(), data(source=off, filled=8)], body=[1] * 8))
            self.refused(file_of(segments=[bare(source=off), code()], body=[1] * 8))

    def test_no_more_bytes_than_its_size(self):
        body = [7] * 16
        self.taken(file_of(segments=[code(filled=PAGE)], body=body))
        self.refused(file_of(segments=[code(filled=PAGE + 1)], body=body))
        self.taken(file_of(segments=[code(filled=PAGE + 1, size=2 * PAGE)], body=body))

    def test_its_bytes_are_within_the_file(self):
        body = [7] * 16
        self.taken(file_of(segments=[code(), data(source=PAGE, filled=16)], body=body))
        self.refused(file_of(segments=[code(), data(source=PAGE, filled=17)], body=body))
        self.refused(file_of(segments=[code(), data(source=2 * PAGE, filled=1)], body=body))
        self.refused(file_of(segments=[code(), data(source=ALL - PAGE, filled=PAGE)], body=body))
        self.refused(file_of(segments=[code(), data(source=2 * PAGE, filled=0)], body=body))

    def test_rights_are_below_8(self):
        for rights in range(8):
            self.taken(self.only(rights=rights))
        for rights in (8, 9, 256, 1 << 31):
            self.refused(self.only(rights=rights))

    def test_length_and_number(self):
        self.taken(self.only(sections=1))
        self.taken(self.only(sections=3))
        self.refused(self.only(sections=1, length=72))
        self.refused(self.only(sections=0, length=80))
        self.refused(self.only(sections=0, length=152))
        self.refused(self.only(sections=2, length=152))
        self.refused(self.only(sections=256, length=72))
        self.refused(self.only(sections=1 << 24, length=72))
        for length in (8, 16, 64):
            self.refused(file_of(extra=[segment(HOME + 3 * PAGE, length=length)]))

    def test_all_bytes_of_its_numbers_count(self):
        filled = len(self.only())
        self.taken(self.only(filled=filled))
        for k in (5, 6, 7):
            high = 0x80 << 8 * k
            self.refused(self.only(place=HOME + high))
            self.refused(self.only(size=PAGE + high))
            self.refused(self.only(filled=filled + high))
            self.refused(file_of(segments=[code(), data(source=high, filled=8)]))
        self.taken(file_of(segments=[bare(place=PAGE + (1 << 63)), code()]))

    def test_a_short_segment_at_the_end_of_the_file(self):
        self.refused(file_of(told_parts=False, extra=[segment(HOME + 3 * PAGE, length=8)]))

    def test_not_laid_is_only_the_first_without_bytes_and_rights(self):
        self.taken(file_of(segments=[bare(), code()]))
        self.refused(file_of(segments=[bare(rights=1), code()]))
        self.refused(file_of(segments=[bare(size=PAGE, place=HOME - PAGE, filled=1), code()]))
        file = file_of(segments=[code(), data(rights=0)])
        self.assertEqual(ask(take(file), read(PAGE, 20000)), [[0], [8192] + [0] * 8192])
        self.refused(file_of(segments=[bare(), bare(), code()]))

    def test_one_that_is_not_laid_may_lie_anywhere(self):
        for place, size in ((0, 0), (0, PAGE), (HOME, PAGE), (ALL - PAGE, ALL - PAGE), (PAGE, HOME)):
            self.taken(file_of(segments=[bare(place=place, size=size), code()]))

    def test_one_is_laid_at_least(self):
        self.taken(file_of(segments=[code()]))
        self.refused(file_of(segments=[]))
        self.refused(file_of(segments=[bare()]))

    def row(self, count):
        return [code()] + [data(place=HOME + k * PAGE, size=PAGE) for k in range(1, count)]

    def test_sixteen_are_laid_at_most(self):
        self.taken(file_of(segments=self.row(16)))
        self.refused(file_of(segments=self.row(17)))
        self.taken(file_of(segments=[bare()] + self.row(16)))
        self.refused(file_of(segments=[bare()] + self.row(17)))

    def test_each_from_where_the_one_before_ends_on(self):
        last = data(place=HOME + 3 * PAGE)
        self.taken(file_of(segments=[code(), data(), last]))
        for off in (-2 * PAGE, -PAGE):
            self.refused(file_of(segments=[code(), data(place=HOME + PAGE + off)]))
            self.refused(file_of(segments=[code(), data(), data(place=HOME + 3 * PAGE + off)]))
        self.refused(file_of(segments=[code(), last, data()]))

    def test_room_may_be_between_two(self):
        for room in (PAGE, 2 * PAGE, 100 * PAGE):
            self.taken(file_of(segments=[code(), data(place=HOME + PAGE + room)]))
            self.taken(file_of(segments=[bare(), code(), data(place=HOME + PAGE + room)]))
            self.taken(file_of(segments=[code(), data(), data(place=HOME + 3 * PAGE + room)]))

    def test_room_takes_no_part_of_the_one_before(self):
        further = data(place=HOME + 4 * PAGE)
        self.taken(file_of(segments=[code(), further, data(place=HOME + 6 * PAGE)]))
        for place in (0, HOME - 2 * PAGE, HOME, HOME + PAGE, HOME + 2 * PAGE, HOME + 4 * PAGE, HOME + 5 * PAGE):
            self.refused(file_of(segments=[code(), further, data(place=place)]))

    def test_room_does_not_count_as_one_that_is_laid(self):
        rows = [code()] + [data(place=HOME + 2 * k * PAGE, size=PAGE) for k in range(1, 17)]
        self.taken(file_of(segments=rows[:16]))
        self.refused(file_of(segments=rows))

    def test_sizes_are_above_0(self):
        self.refused(file_of(segments=[code(), data(size=0)]))
        self.refused(file_of(segments=[code(), data(size=0), data()]))

    def test_the_last_ends_below_2_to_the_47(self):
        self.taken(file_of(segments=[code(place=TOP - 2 * PAGE)]))
        self.refused(file_of(segments=[code(place=TOP - PAGE)]))
        self.refused(file_of(segments=[code(place=TOP)]))
        self.refused(file_of(segments=[code(place=ALL - PAGE)]))
        self.taken(file_of(segments=[code(place=TOP - 3 * PAGE), data(place=TOP - 2 * PAGE, size=PAGE)]))
        self.refused(file_of(segments=[code(place=TOP - 2 * PAGE), data(place=TOP - PAGE, size=PAGE)]))
        self.taken(file_of(segments=[code(place=TOP - 4 * PAGE), data(place=TOP - 2 * PAGE, size=PAGE)]))
        self.refused(file_of(segments=[code(place=TOP - 4 * PAGE), data(place=TOP - PAGE, size=PAGE)]))

    def test_the_last_ends_at_most_4194304_behind_the_first(self):
        self.taken(file_of(segments=[code(size=4194304)]))
        self.refused(file_of(segments=[code(size=4194304 + PAGE)]))
        self.taken(file_of(segments=[code(), data(size=4194304 - PAGE)]))
        self.refused(file_of(segments=[code(), data(size=4194304)]))
        self.refused(file_of(segments=[code(), data(size=ALL - PAGE)]))
        self.taken(file_of(segments=[code(), data(place=HOME + 4194304 - PAGE, size=PAGE)]))
        self.refused(file_of(segments=[code(), data(place=HOME + 4194304, size=PAGE)]))
        self.refused(file_of(segments=[code(), data(place=HOME + 4194304 - PAGE, size=2 * PAGE)]))
        self.refused(file_of(segments=[code(), data(place=ALL - PAGE, size=PAGE)]))

    def test_the_first_begins_at_the_beginning_of_the_file(self):
        body = file_of()
        self.taken(file_of(segments=[code(filled=len(body))], body=body))
        self.refused(file_of(segments=[code(filled=len(body), source=PAGE)], body=body))

    def test_the_first_has_head_and_commands(self):
        plan = Plan(segments=[code(filled=0)], tree=[0, 0])
        reach = plan.reach()
        self.taken(file_of(segments=[code(filled=reach)], tree=[0, 0]))
        self.refused(file_of(segments=[code(filled=reach - 1)], tree=[0, 0]))
        self.refused(file_of(segments=[code(filled=32)], tree=[0, 0]))


class Libraries(FileCase):
    def test_where_the_name_stands(self):
        self.taken(file_of(extra=[library("abc", 24)]))
        for at in (0, 23, 25, 32, 24 + 256, 24 + (1 << 24)):
            self.refused(file_of(extra=[library("abc", at)]))

    def test_signs_of_a_name(self):
        for sign in (33, 65, 126):
            self.taken(file_of(extra=[library([sign, 0])]))
        for sign in (1, 9, 10, 32, 127, 128, 200, 255):
            self.refused(file_of(extra=[library([sign, 0])]))
            self.refused(file_of(extra=[library([65, sign, 65, 0])]))

    def test_an_empty_name(self):
        self.taken(file_of(extra=[library("")]))

    def test_what_stands_behind_the_name_may_be_anything(self):
        self.taken(file_of(extra=[library([65, 0, 255, 32, 1])]))

    def test_a_name_has_255_bytes_at_most(self):
        self.taken(file_of(extra=[library("x" * 255)]))
        self.refused(file_of(extra=[library("x" * 256)]))

    def test_a_name_ends_within_its_command(self):
        self.taken(file_of(extra=[library([65] * 7 + [0])]))
        self.refused(file_of(extra=[library([65] * 8), command(1, [])]))
        self.refused(file_of(extra=[library([65] * 8)]))

    def test_its_length_is_25_at_least(self):
        self.taken(file_of(extra=[library("", length=32)]))
        self.refused(file_of(extra=[library([]), command(0, [])]))
        self.refused(file_of(extra=[command(0xC, le(24, 4) + [0] * 4)]))
        self.refused(file_of(extra=[command(0xC, [])]))

    def test_64_at_most(self):
        self.taken(file_of(libraries=["x"] * 64))
        self.refused(file_of(libraries=["x"] * 65))


class Beginning(FileCase):
    def test_it_begins_within_the_first_segment(self):
        end = Plan(beginning=0).reach()
        for place in (0, 32, end - 1):
            self.taken(file_of(beginning=place))
        for place in (end, end + 1, PAGE, HOME, 1 << 56, ALL - 1):
            self.refused(file_of(beginning=place))

    def test_the_first_laid_segment_is_meant(self):
        self.taken(file_of(segments=[bare(), code(), data()], beginning=40))
        file = dict(segments=[code(filled=600), data(source=0, filled=700)], body=[0] * 8)
        self.taken(file_of(beginning=599, **file))
        self.refused(file_of(beginning=600, **file))

    def test_once_at_most(self):
        self.taken(file_of(extra=[beginning(0)]))
        self.refused(file_of(extra=[beginning(0), beginning(0)]))

    def test_its_length_is_24(self):
        for length in (16, 32):
            made = beginning(0, 24)[:length]
            self.refused(file_of(extra=[command(0x80000028, made[8:], length)]))
        self.refused(file_of(extra=[command(0x80000028, [])]))


class Parts(FileCase):
    def test_once_at_most(self):
        empty = parts([(0, 0)] * 5)
        self.taken(file_of(told_parts=False, extra=[empty]))
        self.refused(file_of(told_parts=False, extra=[empty, empty]))

    def test_its_length_is_48(self):
        for length in (8, 40, 56):
            made = parts([(0, 0)] * 5)[8:length]
            self.refused(file_of(told_parts=False, extra=[command(0x80000022, made, length)]))

    def test_two_have_size_0(self):
        for index in (2, 3):
            self.taken(file_of(rows={index: (0, 0)}))
            self.taken(file_of(rows={index: (0xFFFFFFFF, 0)}))
            for size in (1, 256, 1 << 31):
                self.refused(file_of(rows={index: (0, size)}))

    def test_three_are_within_the_file(self):
        zeros = [0] * 16
        for index, name in ((0, "mend"), (1, "bind"), (4, "tree")):
            plan = {name: zeros}
            self.taken(file_of(**plan))
            self.refused(file_of(rows={index: lambda row: (row[0], row[1] + 1)}, **plan))
            self.refused(file_of(rows={index: lambda row: (row[0] + 1, row[1])}, **plan))
            self.refused(file_of(rows={index: lambda row: (row[0] + (1 << 24), row[1])}, **plan))
            self.refused(file_of(rows={index: lambda row: (row[0], row[1] + (1 << 24))}, **plan))
            self.refused(file_of(rows={index: (0xFFFFFFFF, 16)}, **plan))
            self.refused(file_of(rows={index: lambda row: (row[0], 0xFFFFFFFF)}, **plan))

    def test_an_empty_one_has_its_place_within_the_file(self):
        for index in (0, 1, 4):
            self.taken(file_of(rows={index: lambda row: (row[0], 0)}))
            self.refused(file_of(rows={index: lambda row: (row[0] + 1, 0)}))

    def test_they_stand_in_their_order(self):
        # Each of these is taken as what it is, and refused as each of the others.
        mend = [0x11, 0x21, 0, 0x51]
        bind = [0x51, 0x40] + text("a") + [0x10, 0x71, 0]
        tree = [0, 1] + text("a") + [5, 2] + sevens(0) + sevens(1) + [0]
        self.taken(file_of(mend=mend, bind=bind, tree=tree))
        self.refused(file_of(mend=bind))
        self.refused(file_of(mend=tree))
        self.refused(file_of(bind=mend))
        self.refused(file_of(bind=tree))
        self.refused(file_of(tree=mend))
        self.refused(file_of(tree=bind))


class Words(FileCase):
    def mend_at(self, index, far):
        return [0x11, 0x20 + index] + sevens(far) + [0x51]

    def test_within_its_segment(self):
        for far in (0, 1, 7, 4000, 2 * PAGE - 8):
            self.mends([far], file_of(mend=self.mend_at(1, far)))
        for far in (2 * PAGE - 7, 2 * PAGE - 1, 2 * PAGE, ALL - 1, ALL - 8, ALL - PAGE):
            self.refused(file_of(mend=self.mend_at(1, far)))

    def test_not_over_the_edge_of_two(self):
        rows = [code(rights=7), data(size=PAGE), data(place=HOME + 2 * PAGE)]
        for far in (PAGE - 8, PAGE, 2 * PAGE - 8, 2 * PAGE):
            self.taken(file_of(segments=rows, mend=self.mend_at(0, far)))
        for far in (PAGE - 7, PAGE - 1, 2 * PAGE - 7, 2 * PAGE - 1):
            self.refused(file_of(segments=rows, mend=self.mend_at(0, far)))

    def test_not_in_the_room_between_two_nor_over_its_edges(self):
        rows = [code(), data(size=PAGE), data(place=HOME + 4 * PAGE, size=PAGE)]
        for far in (0, PAGE - 8, 3 * PAGE, 4 * PAGE - 8):
            self.mends([far], file_of(segments=rows, mend=self.mend_at(1, far)), 4 * PAGE)
        for far in (PAGE - 7, PAGE - 1, PAGE, 2 * PAGE, 3 * PAGE - 8, 3 * PAGE - 1, 4 * PAGE - 7):
            self.refused(file_of(segments=rows, mend=self.mend_at(1, far)))
        self.mends([3 * PAGE + 8], file_of(segments=rows, mend=self.mend_at(2, 8)), 4 * PAGE)

    def test_the_right_to_be_written(self):
        for rights in (2, 3, 6, 7):
            self.taken(file_of(segments=[code(), data(rights=rights)], mend=self.mend_at(1, 0)))
        for rights in (0, 1, 4, 5):
            self.refused(file_of(segments=[code(), data(rights=rights)], mend=self.mend_at(1, 0)))
        self.refused(file_of(mend=self.mend_at(0, PAGE - 8)))

    def test_bytes_that_the_file_gives(self):
        body = list(range(1, 100))
        file = file_of(segments=[code(), data(source=PAGE, filled=99)], body=body)
        self.assertEqual(ask(take(file), read(DATA, 120)), [[0], [120] + body + [0] * 21])


if __name__ == "__main__":
    unittest.main()
