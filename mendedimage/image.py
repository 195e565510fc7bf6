"""An image that's laid at a base."""

from mendedimage.commands import PAGE
from mendedimage.ground import MOST_REACH, TOP
from mendedimage.reading import MODULUS, MOST_TEXT, number_at
from mendedimage.refusals import BadBase, NotWanted, UnknownName
from mendedimage.words import WORD

MOST_READ = 4194304


# As much of the word as the row has: it may begin before the row, or end behind it.
def put_word(row, at, value):
    for k in range(at, at + WORD):
        if 0 <= k < len(row):
            row[k] = value % 256
        value //= 256


def with_zeros(letters):
    return letters + [0] * (MOST_TEXT - len(letters))


class WantedWord:
    def __init__(self, place, want):
        self.place = place
        self.want = want


# Words to be mended are held as they are at home, and mended where they're read:
# so to lay an image anew takes no longer for many words than for one.
class Image:
    def __init__(self, ground, beginning, held, mended, wanted, names):
        self.ground = ground
        self.base = ground.home
        self.beginning = beginning
        self.held = held
        self.mended = mended
        self.wanted = wanted
        self.names = names

    def lay(self, base):
        if base % PAGE != 0 or base + MOST_REACH >= TOP:
            raise BadBase()
        self.base = base

    def read(self, at, most):
        if not 1 <= most <= MOST_READ:
            return []
        found = self.held[at:at + most]
        # A word that began up to seven bytes before still has bytes here.
        for place in range(at - 7, at + len(found)):
            if place in self.mended:
                put_word(found, place - at, self.mended_word(place))
        return found

    def mended_word(self, place):
        return (number_at(self.held, place, WORD) + self.base - self.ground.home) % MODULUS

    def place_named(self, name):
        if name not in self.names:
            raise UnknownName()
        return self.names[name]

    # Run by run, not word by word: an image may want far more words than its file has bytes.
    def wanted_word(self, k):
        behind = k
        for want in self.wanted:
            if 0 <= behind < want.run_wanted.count:
                return WantedWord(want.run_wanted.place_of_word(behind), want)
            behind -= want.run_wanted.count
        raise NotWanted()

    def tell_wanted(self, k):
        word = self.wanted_word(k)
        want = word.want
        numbers = [len(want.name), word.place, want.library, want.added]
        return numbers + with_zeros(want.library_name) + with_zeros(want.name)

    def fill(self, k, value):
        word = self.wanted_word(k)
        put_word(self.held, word.place, (value + word.want.added) % MODULUS)

    def about(self):
        lies = [len(self.ground.laid), self.base, self.ground.length, self.beginning]
        wanted = sum([want.run_wanted.count for want in self.wanted])
        return lies + [len(self.mended), wanted, len(self.names)]
