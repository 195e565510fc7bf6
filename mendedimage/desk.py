"""The calls, and what's answered to them."""

from mendedimage.making import image_of
from mendedimage.refusals import BadBase, BadFile, NoImage, NotWanted, UnknownName

# How many numbers a call has, its own among them; one with a row says it itself.
LENGTHS = {0: 1, 2: 2, 3: 3, 5: 2, 6: 3, 7: 1}


class Desk:
    def __init__(self):
        self.image = None

    def image_there(self):
        if self.image is None:
            raise NoImage()
        return self.image


def begin(desk, call):
    desk.image = None
    return [0]


def take_file(desk, call):
    desk.image = image_of(call[2:])
    return [0]


def lay(desk, call):
    desk.image_there().lay(call[1])
    return [0]


def read(desk, call):
    found = desk.image_there().read(call[1], call[2])
    return [len(found)] + found


def find(desk, call):
    return [0, desk.image_there().place_named(tuple(call[2:]))]


def want(desk, call):
    return desk.image_there().tell_wanted(call[1])


def fill(desk, call):
    desk.image_there().fill(call[1], call[2])
    return [0]


def about(desk, call):
    return desk.image_there().about()


CALLS = (begin, take_file, lay, read, find, want, fill, about)


def answer(desk, call):
    try:
        return CALLS[call[0]](desk, call)
    except NoImage:
        return [-4]
    except BadFile:
        return [-1]
    except BadBase:
        return [-1]
    except UnknownName:
        return [-1]
    except NotWanted:
        return [-1]


def length_of(calls, at):
    if calls[at] in LENGTHS:
        return LENGTHS[calls[at]]
    return 2 + calls[at + 1]


def answers(calls):
    desk = Desk()
    answered = []
    at = 0
    while at < len(calls):
        length = length_of(calls, at)
        told = answer(desk, calls[at:at + length])
        answered.append(len(told))
        answered.extend(told)
        at += length
    return answered
