"""The tree of names."""

from mendedimage.reading import MOST_TEXT, Cursor
from mendedimage.refusals import demand


class Node:
    def __init__(self, at, name):
        self.at = at
        self.name = name


def take_place(cursor, node, given, length):
    size = cursor.sevens()
    if size == 0:
        return
    demand(node.at != 0)
    end = cursor.at + size
    demand(cursor.sevens() == 0)
    place = cursor.sevens()
    demand(cursor.at == end)
    demand(place < length)
    demand(node.name not in given)
    given[node.name] = place


def nodes_below(cursor, node):
    below = []
    for turn in range(cursor.byte()):
        letters = cursor.text()
        demand(len(letters) > 0)
        name = node.name + tuple(letters)
        demand(len(name) <= MOST_TEXT)
        below.append(Node(cursor.sevens(), name))
    return below


# The place that each name stands for.
def names_given(part, length):
    given = {}
    waiting = [Node(0, ())] if part else []
    met = {0: True}
    while waiting:
        node = waiting.pop()
        cursor = Cursor(part, node.at)
        take_place(cursor, node, given, length)
        for below in nodes_below(cursor, node):
            demand(below.at not in met)
            met[below.at] = True
            waiting.append(below)
    return given
