"""The program that mends."""

from mendedimage.refusals import BadFile, demand
from mendedimage.walking import Walk
from mendedimage.words import WORD

STEPS_WITH_N = (1, 2, 4, 5)


class Mending(Walk):
    def __init__(self, part, ground):
        Walk.__init__(self, part, ground)
        self.mended = []

    def do_words(self, count, between):
        self.mended.append(self.run(count, between))

    def take_step(self, what, n):
        demand(n == 0 or what in STEPS_WITH_N)
        if what == 1:
            self.tell_kind(n)
        elif what == 2:
            self.go_into(n)
        elif what == 3:
            self.go_on(self.cursor.sevens())
        elif what == 4:
            self.go_on(WORD * n)
        elif what == 5:
            self.do_words(n, 0)
        elif what == 6:
            self.do_words(self.cursor.sevens(), 0)
        elif what == 7:
            self.do_words(1, self.cursor.sevens())
        elif what == 8:
            self.do_words_apart()
        else:
            raise BadFile()


def mended_by(part, ground):
    walk = Mending(part, ground)
    walk.walk_through()
    return walk.mended
