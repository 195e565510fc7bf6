"""Promise 5: find."""

import unittest

from building import (
    HOME, LEAF, NONE, PAGE, SHIFT, FileCase, ask, bare, chain, code, data, fill, file_of, find, forest, lay, node,
    sevens, stands, take, text,
)

LENGTH = 3 * PAGE


def tree_with(places):
    """A first node with a leaf for each name; a place always has three bytes, so that leaves are of one size."""
    leaves = [[4, 0] + sevens(place, 3) + [0] for place in places.values()]
    at = 2 + sum(len(name) + 3 for name in places)
    pairs = [(name, at + 6 * k) for k, name in enumerate(places)]
    return node(NONE, *pairs) + sum(leaves, [])


class FindCase(FileCase):
    def finds(self, tree, places, others=(), **changes):
        """Each name is found at its place, and none of the others is found."""
        calls = [find(name) for name in list(places) + list(others)]
        found = ask(take(file_of(tree=tree, **changes)), *calls)
        wanted = [[0, place] for place in places.values()] + [[-1]] * len(others)
        self.assertEqual(found, [[0]] + wanted)


class Given(FindCase):
    def test_one_name(self):
        self.finds(forest("main"), {"main": 1})

    def test_names_side_by_side(self):
        places = {"main": 700, "other": 2, "a": 4096, "~!": 12287, "Main": 5}
        self.finds(tree_with(places), places, ["MAIN", "b", "!~", "~"])

    def test_two_names_for_one_place(self):
        places = {"one": 77, "two": 77}
        self.finds(tree_with(places), places)

    def test_names_of_several_nodes_on_one_way(self):
        first = node(NONE, ("a", 6))
        second = node(stands(10), ("bc", 6 + 9))
        third = node(stands(20), ("d", 6 + 9 + 8))
        tree = first + second + third + node(stands(30))
        self.assertEqual((len(first), len(second), len(third)), (6, 9, 8))
        self.finds(tree, {"a": 10, "abc": 20, "abcd": 30}, ["ab", "b", "bc", "bcd", "cd", "d", "abcde", "aabcd"])

    def test_a_way_that_parts(self):
        first = node(NONE, ("_", 6))
        second = node(NONE, ("x", 16), ("y", 20))
        tree = first + second + node(stands(1)) + node(stands(2))
        self.assertEqual(len(first + second), 16)
        self.finds(tree, {"_x": 1, "_y": 2}, ["_", "x", "y", "_xy", "_z"])

    def test_a_place_at_0_and_the_last_one(self):
        places = {"first": 0, "last": LENGTH - 1}
        self.finds(tree_with(places), places)
        wide = [bare(), code(), data(size=4194304 - PAGE)]
        self.finds(forest("a", leaf=stands(4194303) + [0]), {"a": 4194303}, segments=wide)

    def test_a_place_in_the_room_between_segments(self):
        rows = [code(), data(place=HOME + 3 * PAGE, size=PAGE)]
        places = {"room": 2 * PAGE + 1, "last": 4 * PAGE - 1}
        self.finds(tree_with(places), places, segments=rows)

    def test_a_name_of_255(self):
        name = "x" * 254 + "y"
        others = [name[:-1], name[1:], "x" * 255, name[:-1] + "z"]
        self.finds(chain(name), {name: 1}, others)
        self.finds(chain(*name), {name: 1}, others)
        self.finds(chain(name[:100], name[100:254], name[254:]), {name: 1}, others)

    def test_many_names(self):
        names = [f"n{k}" for k in range(255)]
        self.finds(forest(*names), {name: 1 for name in names}, ["n255", "n", "n00"])

    def test_bytes_that_no_node_has_give_no_name(self):
        self.finds(forest("a") + node(NONE, ("b", 0)), {"a": 1}, ["b"])

    def test_the_place_is_not_changed_by_lay_or_fill(self):
        bind = [0x11, 0x51, 0x40] + text("b") + [0x71, 0, 0x90]
        file = file_of(tree=forest("a"), libraries=["x"], bind=bind)
        found = ask(take(file), lay(HOME + SHIFT), find("a"), fill(0, 99), find("a"), find("b"), find("x"))
        self.assertEqual(found, [[0], [0], [0, 1], [0], [0, 1], [-1], [-1]])

    def test_another_file_gives_other_names(self):
        found = ask(take(file_of(tree=forest("a"))), find("a"), find("b"), take(file_of(tree=forest("b"))),
                    find("a"), find("b"), take(file_of()), find("a"), find("b"))
        self.assertEqual(found, [[0], [0, 1], [-1], [0], [-1], [0, 1], [0], [-1], [-1]])


class NotGiven(FindCase):
    def test_a_name_that_only_begins_another(self):
        self.finds(forest("main"), {"main": 1}, ["m", "ma", "mai", "ain", "n"])
        self.finds(chain("ab", "cd"), {"abcd": 1}, ["a", "ab", "abc", "cd"])

    def test_a_name_that_is_longer(self):
        self.finds(forest("main"), {"main": 1}, ["main_", "mainmain", "main" + "x" * 251, "_main"])

    def test_a_node_that_stands_for_no_place(self):
        self.finds(chain("a", "b"), {"ab": 1}, ["a"])
        self.finds(chain("a", "b", leaf=node(NONE)), {}, ["a", "b", "ab"])

    def test_a_node_that_stands_for_no_place_beside_one_of_its_name_that_does(self):
        self.finds(node(NONE, ("a", 10), ("a", 14)) + LEAF + [0, 0], {"a": 1})
        self.finds(node(NONE, ("a", 10), ("a", 12)) + [0, 0] + LEAF, {"a": 1})

    def test_an_image_with_no_names(self):
        self.finds([], {}, ["a", "main"])
        self.finds([0, 0], {}, ["a", "main"])
        self.finds([], {}, ["a", "main"], told_parts=False)

    def test_an_empty_name(self):
        self.finds(forest("a"), {"a": 1}, [""])
        self.finds([], {}, [""])
        self.finds([], {}, [""], told_parts=False)

    def test_bytes_that_no_text_has(self):
        self.finds(forest("A"), {"A": 1}, [])
        rows = [[0], [65, 0], [0, 65], [65, 32], [65 + 128], [255] * 255, [0] * 255, list(range(1, 256))]
        found = ask(take(file_of(tree=forest("A"))), *[find(row) for row in rows])
        self.assertEqual(found[1:], [[-1]] * len(rows))

    def test_nothing_changes(self):
        found = ask(take(file_of(tree=forest("a"))), find("b"), find(""), find("a"))
        self.assertEqual(found, [[0], [-1], [-1], [0, 1]])


class NoImage(FindCase):
    def test_no_image(self):
        self.assertEqual(ask(find("a"), find(""), find("x" * 255)), [[-4]] * 3)
        self.assertEqual(ask(take(file_of(tree=forest("a"))), [0], find("a"), find("")), [[0], [0], [-4], [-4]])


if __name__ == "__main__":
    unittest.main()
