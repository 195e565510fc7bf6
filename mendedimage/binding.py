"""The program that binds."""

from mendedimage.refusals import BadFile, demand
from mendedimage.walking import Walk
from mendedimage.words import WORD

STEPS_WITH_N = (1, 5, 7, 11)


class Want:
    def __init__(self, run, library, library_name, name, added):
        self.run_wanted = run
        self.library = library
        self.library_name = library_name
        self.name = name
        self.added = added


# No library has the number 0, and no name is empty: so these stand until others are told.
class Binding(Walk):
    def __init__(self, part, ground, libraries):
        Walk.__init__(self, part, ground)
        self.libraries = libraries
        self.library = 0
        self.name = []
        self.added = 0
        self.wanted = []

    def tell_name(self):
        self.name = self.cursor.text()
        demand(len(self.name) > 0)

    def do_words(self, count, between):
        demand(1 <= self.library <= len(self.libraries))
        demand(len(self.name) > 0)
        run = self.run(count, between)
        library_name = self.libraries[self.library - 1]
        self.wanted.append(Want(run, self.library, library_name, self.name, self.added))

    def take_step(self, what, n):
        demand(n == 0 or what in STEPS_WITH_N)
        if what == 1:
            self.library = n
        elif what == 2:
            self.library = self.cursor.sevens()
        elif what == 4:
            self.tell_name()
        elif what == 5:
            self.tell_kind(n)
        elif what == 6:
            self.added = self.cursor.signed_sevens()
        elif what == 7:
            self.go_into(n)
        elif what == 8:
            self.go_on(self.cursor.sevens())
        elif what == 9:
            self.do_words(1, 0)
        elif what == 10:
            self.do_words(1, self.cursor.sevens())
        elif what == 11:
            self.do_words(1, WORD * n)
        elif what == 12:
            self.do_words_apart()
        else:
            raise BadFile()


def wanted_by(part, ground, libraries):
    walk = Binding(part, ground, libraries)
    walk.walk_through()
    return walk.wanted
