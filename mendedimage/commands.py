"""A file's head and its commands."""

from mendedimage.reading import Cursor, number_at
from mendedimage.refusals import demand

HEAD_SIZE = 32
MAGIC = 0xFEEDFACF
PROCESSOR = 0x01000007
FILE_KINDS = (2, 6, 8)
MOST_COMMANDS = 256

SEGMENT = 0x19
LIBRARY = 0xC
BEGINNING = 0x80000028
PARTS = 0x80000022

PAGE = 4096
SEGMENT_SIZE = 72
SECTION_SIZE = 80
LIBRARY_NAME = 24
MOST_LIBRARIES = 64
BEGINNING_SIZE = 24
PARTS_SIZE = 48


class Segment:
    def __init__(self, command):
        self.place = number_at(command, 24, 8)
        self.size = number_at(command, 32, 8)
        self.source = number_at(command, 40, 8)
        self.filled = number_at(command, 48, 8)
        self.rights = number_at(command, 60, 4)
        self.sections = number_at(command, 64, 4)


# What the commands tell. What may be told once at most is None until it's told.
class Contents:
    def __init__(self):
        self.reach = HEAD_SIZE
        self.segments = []
        self.libraries = []
        self.beginning = None
        self.parts = None


def check_head(file):
    demand(len(file) >= HEAD_SIZE)
    demand(number_at(file, 0, 4) == MAGIC)
    demand(number_at(file, 4, 4) == PROCESSOR)
    demand(number_at(file, 12, 4) in FILE_KINDS)
    demand(number_at(file, 16, 4) <= MOST_COMMANDS)
    demand(HEAD_SIZE + number_at(file, 20, 4) <= len(file))


def take_segment(contents, command, file):
    segment = Segment(command)
    demand(len(command) == SEGMENT_SIZE + SECTION_SIZE * segment.sections)
    demand(segment.rights < 8)
    demand(segment.place % PAGE == 0)
    demand(segment.size % PAGE == 0)
    demand(segment.source % PAGE == 0)
    demand(segment.filled <= segment.size)
    demand(segment.source + segment.filled <= len(file))
    contents.segments.append(segment)


def take_library(contents, command):
    demand(len(command) > LIBRARY_NAME)
    demand(number_at(command, 8, 4) == LIBRARY_NAME)
    demand(len(contents.libraries) < MOST_LIBRARIES)
    contents.libraries.append(Cursor(command, LIBRARY_NAME).text())


def take_beginning(contents, command):
    demand(contents.beginning is None)
    demand(len(command) == BEGINNING_SIZE)
    contents.beginning = number_at(command, 8, 8)


def part_of(command, at, file):
    place = number_at(command, at, 4)
    size = number_at(command, at + 4, 4)
    demand(place + size <= len(file))
    return file[place:place + size]


def take_parts(contents, command, file):
    demand(contents.parts is None)
    demand(len(command) == PARTS_SIZE)
    demand(number_at(command, 28, 4) == 0)
    demand(number_at(command, 36, 4) == 0)
    contents.parts = [part_of(command, at, file) for at in (8, 16, 40)]


def take_command(contents, command, file):
    kind = number_at(command, 0, 4)
    if kind == SEGMENT:
        take_segment(contents, command, file)
    elif kind == LIBRARY:
        take_library(contents, command)
    elif kind == BEGINNING:
        take_beginning(contents, command)
    elif kind == PARTS:
        take_parts(contents, command, file)


def contents_of(file):
    check_head(file)
    contents = Contents()
    end = HEAD_SIZE + number_at(file, 20, 4)
    for turn in range(number_at(file, 16, 4)):
        length = number_at(file, contents.reach + 4, 4)
        demand(length >= 8 and length % 8 == 0)
        demand(contents.reach + length <= end)
        take_command(contents, file[contents.reach:contents.reach + length], file)
        contents.reach += length
    demand(contents.reach == end)
    return contents
