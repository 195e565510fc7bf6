"""Promise 2: open, as far as the tree is told."""

import unittest

from building import (
    ALL, HOME, LEAF, NONE, PAGE, FileCase, bare, chain, code, data, file_of, forest, node, sevens, stands, text,
)

LENGTH = 3 * PAGE


class TreeCase(FileCase):
    def good(self, tree):
        self.taken(file_of(tree=tree))

    def bad(self, tree):
        self.refused(file_of(tree=tree))


class Nodes(TreeCase):
    def test_an_empty_part(self):
        self.good([])

    def test_a_first_node_alone(self):
        self.good([0, 0])
        self.bad([0])

    def test_leaves_and_chains(self):
        self.good(forest("a"))
        self.good(forest("a", "b", "main", "~!"))
        self.good(chain("a", "b", "c"))
        self.good(chain("a", leaf=node(NONE)))

    def test_bytes_that_no_node_has(self):
        self.good(forest("a") + [255] * 20)

    def test_the_first_node_stands_for_nothing(self):
        self.bad(node(stands(1)))
        self.bad(node(stands(1), ("a", 10)) + [0] * 2 + LEAF)

    def test_a_node_with_a_place_and_nodes_below(self):
        middle = node(stands(1), ("b", 5 + 1 + 8))
        self.assertEqual(len(middle), 8)
        self.good(node(NONE, ("a", 6)) + middle + LEAF)

    def test_what_a_node_stands_for(self):
        for leaf in (stands(0), stands(300), stands(LENGTH - 1), stands(1, sevens(0, 3)), [0x82, 0, 0, 1], [0x80, 0]):
            self.good(forest("a", leaf=leaf + [0]))

    def test_its_first_number_is_0(self):
        for flags in (1, 2, 4, 8, 16, 128):
            self.bad(forest("a", leaf=stands(1, sevens(flags)) + [0]))

    def test_its_second_number_is_a_place_in_the_image(self):
        self.good(forest("a", leaf=stands(LENGTH - 1) + [0]))
        for place in (LENGTH, LENGTH + 1, ALL - 1):
            self.bad(forest("a", leaf=stands(place) + [0]))
        wide = [bare(), code(), data(size=4194304 - PAGE)]
        self.taken(file_of(segments=wide, tree=forest("a", leaf=stands(4194303) + [0])))
        self.refused(file_of(segments=wide, tree=forest("a", leaf=stands(4194304) + [0])))

    def test_a_place_in_the_room_between_two_segments_is_in_the_image(self):
        rows = [code(), data(place=HOME + 3 * PAGE, size=PAGE)]
        for place in (PAGE, 2 * PAGE, 4 * PAGE - 1):
            self.taken(file_of(segments=rows, tree=forest("a", leaf=stands(place) + [0])))
        self.refused(file_of(segments=rows, tree=forest("a", leaf=stands(4 * PAGE) + [0])))

    def test_no_byte_more_and_none_less(self):
        self.bad(forest("a", leaf=stands(1, more=1) + [0]))
        self.bad(forest("a", leaf=[1, 0, 0]))
        self.bad(forest("a", leaf=[1, 0, 1, 0]))
        self.bad(forest("a", leaf=[3, 0, 1, 0]))
        self.bad(forest("a", leaf=[2, 0, 0x81, 1, 0]))
        self.bad(forest("a", leaf=sevens(ALL - 1) + [0, 1, 0]))

    def test_numbers_by_sevens(self):
        self.good(forest("a", leaf=sevens(0, 10) + [0]))
        self.bad(forest("a", leaf=sevens(0, 11) + [0]))
        self.good(forest("a", leaf=stands(1, sevens(0, 10)) + [0]))
        self.bad(forest("a", leaf=stands(1, sevens(0, 11)) + [0]))
        self.bad(forest("a", leaf=stands(ALL) + [0]))

    def test_all_of_a_node_is_within_the_part(self):
        whole = forest("ab")
        self.good(whole)
        for length in range(1, len(whole)):
            self.bad(whole[:length])
            self.refused(file_of(tree=whole[:length], body=[0] * 8))

    def test_as_many_below_as_are_told(self):
        self.bad([0, 1])
        self.bad([0, 2] + text("a") + [5] + LEAF)
        self.good([0, 0] + text("a"))

    def test_255_below(self):
        names = [f"n{k}" for k in range(255)]
        self.good(forest(*names))

    def test_places_are_within_the_part(self):
        self.good(node(NONE, ("a", 6)) + [0, 0])
        for place in (7, 8, 9, 100, 16383):
            self.bad(node(NONE, ("a", place)) + [0, 0])
        self.bad([0, 1] + text("a") + sevens(ALL - 1))
        self.bad([0, 1] + text("a") + sevens(ALL) + [0] * 10)


class Names(TreeCase):
    def test_texts(self):
        for sign in (33, 65, 126):
            self.good(node(NONE, ([sign, 0], 6)) + LEAF)
        for sign in (1, 10, 32, 127, 128, 255):
            self.bad(node(NONE, ([sign, 0], 6)) + LEAF)

    def test_texts_are_not_empty(self):
        self.bad(node(NONE, ("", 5)) + LEAF)
        self.bad(node(NONE, ("", 5)) + node(NONE))
        self.bad(node(NONE, ("a", 6)) + node(NONE, ("", 11)) + LEAF)

    def test_a_text_ends_within_the_part(self):
        self.bad([0, 1, 65, 65, 65])
        self.refused(file_of(tree=[0, 1, 65, 65, 65], body=[0] * 8))

    def test_255_bytes_at_most_in_one(self):
        self.good(chain("x" * 255))
        self.bad(chain("x" * 256))

    def test_255_bytes_at_most_altogether(self):
        self.good(chain("x" * 100, "y" * 100, "z" * 55))
        self.bad(chain("x" * 100, "y" * 100, "z" * 56))
        self.good(chain(*["x"] * 255))
        self.bad(chain(*["x"] * 256))

    def test_names_of_nodes_that_stand_for_nothing_count_too(self):
        self.good(chain("x" * 200, "y" * 55, leaf=node(NONE)))
        self.bad(chain("x" * 200, "y" * 56, leaf=node(NONE)))

    def test_each_way_is_counted_by_itself(self):
        # Two nodes with long names side by side, neither of which is too long.
        self.good(forest("x" * 200, "y" * 200))


class Once(TreeCase):
    def test_a_node_come_to_twice(self):
        self.good(node(NONE, ("a", 10), ("b", 13)) + [0, 0, 0] + [0, 0])
        self.bad(node(NONE, ("a", 10), ("b", 10)) + [0, 0])
        self.bad(node(NONE, ("a", 10), ("b", 10)) + LEAF)

    def test_the_first_node_come_to_again(self):
        self.bad(node(NONE, ("a", 0)))
        self.bad(node(NONE, ("a", 6)) + node(NONE, ("b", 0)))

    def test_a_node_that_leads_to_itself(self):
        self.bad(node(NONE, ("a", 6)) + node(NONE, ("b", 6)))

    def test_a_node_come_to_from_two_nodes(self):
        self.bad(node(NONE, ("a", 10), ("b", 16)) + node(NONE, ("c", 22)) + node(NONE, ("d", 22)) + LEAF)
        self.good(node(NONE, ("a", 10), ("b", 16)) + node(NONE, ("c", 22)) + node(NONE, ("d", 26)) + LEAF + LEAF)

    def test_one_name_for_two_nodes(self):
        self.bad(forest("a", "a"))
        self.bad(forest("one", "two", "one"))

    def test_one_name_on_two_ways(self):
        first = node(NONE, ("a", 11), ("ab", 18))
        middle = node(NONE, ("bc", 24))
        other = node(NONE, ("c", 28))
        self.assertEqual((len(first), len(middle), len(other)), (11, 7, 6))
        self.bad(first + middle + other + LEAF + LEAF)
        self.good(first + middle + node(NONE, ("d", 28)) + LEAF + LEAF)

    def test_one_name_where_one_node_stands_for_nothing(self):
        self.good(node(NONE, ("a", 10), ("a", 14)) + LEAF + [0, 0])
        self.good(node(NONE, ("a", 10), ("a", 14)) + [0, 0, 0, 0] + LEAF)
        self.good(node(NONE, ("a", 10), ("a", 12)) + [0, 0] + [0, 0])

    def test_two_names_for_one_place(self):
        self.good(forest("a", "b"))

    def test_many_nodes(self):
        # Six nodes below the first, each with 240 leaves: an edge has 6 bytes here, a leaf 4.
        size = 2 + 240 * (6 + 4)
        places = [2 + 6 * 5 + k * size for k in range(6)]
        tree = node(NONE, *[(f"g{k}", place) for k, place in enumerate(places)])
        for place in places:
            tree += node(NONE, *[(f"{k:03d}", place + 2 + 240 * 6 + 4 * k) for k in range(240)]) + LEAF * 240
        self.assertGreater(len(tree), 14000)
        self.good(tree)
        self.bad(tree[:-1])


if __name__ == "__main__":
    unittest.main()
