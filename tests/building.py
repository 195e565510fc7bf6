"""Builds files and calls for the tests, and asks the program about them."""

import unittest

from mendedimage.desk import answers

PAGE = 4096
HOME = 0x100000000
DATA = PAGE
TOP = 1 << 47
ALL = 1 << 64
SHIFT = 0x234567000


def le(number, size):
    return list(number.to_bytes(size, "little"))


def sevens(number, length=1):
    digits = []
    while number or len(digits) < length:
        digits.append(number % 128)
        number //= 128
    return [digit + 128 for digit in digits[:-1]] + digits[-1:]


def text(letters):
    return list(letters.encode()) + [0]


def command(kind, inside, length=None):
    """A command, with zeros behind it up to a multiple of 8 or the length that's asked for."""
    size = 8 + len(inside)
    if length is None:
        length = size + -size % 8
    return le(kind, 4) + le(length, 4) + inside + [0] * (length - size)


def segment(place=HOME, size=PAGE, source=0, filled=0, rights=3, sections=0, length=None):
    """A segment; length is how long its command is, whatever the number of sections says."""
    if length is None:
        length = 72 + 80 * sections
    inside = [0x5F] * 16 + le(place, 8) + le(size, 8) + le(source, 8) + le(filled, 8)
    inside += le(7, 4) + le(rights, 4) + le(sections, 4) + le(0x44, 4)
    return command(0x19, inside[:length - 8], length)


def library(letters="lib", name_at=24, length=None):
    name = letters if isinstance(letters, list) else text(letters)
    return command(0xC, le(name_at, 4) + [9] * 12 + name, length)


def beginning(place, length=24):
    return command(0x80000028, le(place, 8) + [9] * 8, length)


def parts(rows, length=48):
    inside = [byte for row in rows for byte in le(row[0], 4) + le(row[1], 4)]
    return command(0x80000022, inside, length)


def head(count, size, magic=0xFEEDFACF, processor=0x01000007, kind=2):
    return le(magic, 4) + le(processor, 4) + [9] * 4 + le(kind, 4) + le(count, 4) + le(size, 4) + [9] * 8


def code(**changes):
    """The first laid segment; where filled is not told it is head, commands and parts, or as much as it holds."""
    return dict({"rights": 5, "filled": None}, **changes)


def data(**changes):
    return dict({"place": HOME + PAGE, "size": 2 * PAGE}, **changes)


def bare(**changes):
    return dict({"place": 0, "size": HOME, "rights": 0}, **changes)


class Plan:
    """A small file that is taken, but for what a test changes.

    `extra` holds commands as they are, behind all others. `rows` changes places and sizes of the five
    parts. `body` is laid into the file at its second page. `count` and `size` change what the head says.
    """

    def __init__(self, **changes):
        self.head = {}
        self.count = 0
        self.size = 0
        self.segments = [code(), data()]
        self.libraries = []
        self.beginning = None
        self.told_parts = True
        self.parts_length = 48
        self.mend = []
        self.bind = []
        self.tree = []
        self.rows = {}
        self.extra = []
        self.body = []
        self.__dict__.update(changes)

    def part_rows(self, reach):
        rows = []
        for part in (self.mend, self.bind, [], [], self.tree):
            rows.append((reach, len(part)))
            reach += len(part)
        for index, row in self.rows.items():
            rows[index] = row(rows[index]) if callable(row) else row
        return rows

    def commands(self, reach):
        end = reach + len(self.mend) + len(self.bind) + len(self.tree)
        made = []
        for fields in self.segments:
            fields = dict(fields)
            if fields.get("filled", 0) is None:
                fields["filled"] = min(end, fields.get("size", PAGE))
            made.append(segment(**fields))
        made += [library(letters) for letters in self.libraries]
        if self.beginning is not None:
            made.append(beginning(self.beginning))
        if self.told_parts:
            made.append(parts(self.part_rows(reach), self.parts_length))
        return made + self.extra

    def reach(self):
        return 32 + sum(len(made) for made in self.commands(0))

    def file(self):
        made = self.commands(self.reach())
        size = sum(len(each) for each in made)
        built = head(len(made) + self.count, size + self.size, **self.head)
        for each in made:
            built += each
        built += self.mend + self.bind + self.tree
        if self.body:
            built += [0] * (PAGE - len(built)) + self.body
        return built


def file_of(**changes):
    return Plan(**changes).file()


def stands(place, flags=None, more=0):
    """What a node stands for, with how many bytes that has before it."""
    said = (sevens(0) if flags is None else flags) + sevens(place) + [0] * more
    return sevens(len(said)) + said


def node(said, *below):
    """A node; below it are pairs of letters and a place, which always has two bytes."""
    made = list(said) + [len(below)]
    for letters, place in below:
        made += (letters if isinstance(letters, list) else text(letters)) + sevens(place, 2)
    return made


NONE = [0]
LEAF = node(stands(1))


def forest(*names, leaf=LEAF):
    """A first node with a leaf for each name."""
    at = 2 + sum(len(name) + 3 for name in names)
    pairs = [(name, at + k * len(leaf)) for k, name in enumerate(names)]
    return node(NONE, *pairs) + leaf * len(names)


def chain(*letters, leaf=LEAF):
    """A node below a node below a node, to a leaf."""
    made = []
    for each in letters:
        made += node(NONE, (each, len(made) + 5 + len(each)))
    return made + leaf


def begin():
    return [0]


def take(file):
    return [1, len(file)] + file


def lay(base):
    return [2, base]


def read(at, most):
    return [3, at, most]


def find(name):
    name = list(name.encode()) if isinstance(name, str) else name
    return [4, len(name)] + name


def want(k):
    return [5, k]


def fill(k, value):
    return [6, k, value]


def about():
    return [7]


def padded(letters):
    return list(letters.encode()) + [0] * (255 - len(letters))


def told(place, library_name="lib", name="name", number=1, added=0):
    """What want answers of such a word."""
    return [len(name), place, number, added % ALL] + padded(library_name) + padded(name)


def split(answered):
    found = []
    at = 0
    while at < len(answered):
        found.append(answered[at + 1:at + 1 + answered[at]])
        at += 1 + answered[at]
    return found


def ask(*calls):
    """What is answered to each of these calls behind a begin."""
    found = split(answers([number for call in (begin(),) + calls for number in call]))
    assert found[0] == [0] and len(found) == len(calls) + 1
    return found[1:]


KEPT = file_of(
    segments=[code(), data(size=PAGE)],
    libraries=["kept"],
    mend=[0x11, 0x21, 8, 0x51],
    bind=[0x11, 0x51, 0x40] + text("own") + [0x60, 7, 0x71, 64, 0x90],
    tree=forest("there"),
)


class FileCase(unittest.TestCase):
    def taken(self, file):
        self.assertEqual(ask(take(file)), [[0]])

    def refused(self, file):
        """The file is refused, and the image that was there stays as it was, where it was."""
        looks = [read(0, 64), read(2 * PAGE - 8, 64), find("there"), want(0), want(1), about(), read(DATA, 80)]
        found = ask(take(KEPT), lay(HOME + SHIFT), fill(0, 5), *looks, take(file), *looks, lay(HOME), looks[-1])
        size = len(looks)
        before = found[3:3 + size]
        self.assertEqual(found[:3], [[0]] * 3)
        self.assertEqual(before[2:6], [
            [0, 1], told(DATA + 64, "kept", "own", added=7), [-1], [2, HOME + SHIFT, 2 * PAGE, 0, 1, 1, 1]])
        self.assertEqual(before[6], [80] + [0] * 8 + le(SHIFT, 8) + [0] * 48 + le(12, 8) + [0] * 8)
        self.assertEqual(found[3 + size], [-1])
        self.assertEqual(found[4 + size:4 + 2 * size], before)
        self.assertEqual(found[4 + 2 * size:], [[0], [80] + [0] * 64 + le(12, 8) + [0] * 8])

    def mends(self, places, file, length=2 * PAGE):
        """The file is taken, and of its data, zeros all, just the words at these places are mended."""
        wanted = [0] * length
        for place in places:
            wanted[place:place + 8] = le(SHIFT, 8)
        found = ask(take(file), lay(HOME + SHIFT), read(DATA, length))
        self.assertEqual(found[:2], [[0], [0]])
        self.assertEqual(found[2], [length] + wanted)
