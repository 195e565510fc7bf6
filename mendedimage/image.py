"""An image that's laid at a base."""

from mendedimage.commands import PAGE
from mendedimage.ground import MOST_REACH, TOP
from mendedimage.reading import MODULUS, number_at
from mendedimage.refusals import BadBase

MOST_READ = 4194304


# Words to be mended are held as they are at home, and mended where they're read:
# so to lay an image anew takes no longer for many words than for one.
class Image:
    def __init__(self, home, held, mended):
        self.home = home
        self.base = home
        self.held = held
        self.mended = mended

    def lay(self, base):
        if base % PAGE != 0 or base + MOST_REACH >= TOP:
            raise BadBase()
        self.base = base

    def read(self, at, most):
        if not 1 <= most <= MOST_READ:
            return []
        found = self.held[at:at + most]
        # A word that began up to seven bytes before still has bytes here.
        for place in range(at - 7, at + len(found)):
            if place in self.mended:
                self.show_mended(place, found, at)
        return found

    def show_mended(self, place, found, at):
        value = (number_at(self.held, place, 8) + self.base - self.home) % MODULUS
        for k in range(place - at, place - at + 8):
            if 0 <= k < len(found):
                found[k] = value % 256
            value //= 256
