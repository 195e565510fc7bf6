"""What both programs of one-byte steps have in common."""

from mendedimage.reading import MODULUS, Cursor
from mendedimage.refusals import demand
from mendedimage.words import WORD, run_of


# Each program has a class of its own above this one, with take_step and do_words.
class Walk:
    def __init__(self, part, ground):
        self.cursor = Cursor(part, 0)
        self.ground = ground
        self.kind_told = False
        self.place_told = False
        self.place = 0

    def walk_through(self):
        while not self.cursor.ended():
            byte = self.cursor.byte()
            if byte == 0:
                self.check_zeros()
            else:
                self.take_step(byte // 16, byte % 16)

    def check_zeros(self):
        while not self.cursor.ended():
            demand(self.cursor.byte() == 0)

    def tell_kind(self, n):
        demand(n == 1)
        self.kind_told = True

    def go_into(self, n):
        self.place = (self.ground.place_of(n) + self.cursor.sevens()) % MODULUS
        self.place_told = True

    def go_on(self, far):
        self.place = (self.place + far) % MODULUS

    def do_words_apart(self):
        count = self.cursor.sevens()
        between = self.cursor.sevens()
        self.do_words(count, between)

    def run(self, count, between):
        demand(self.kind_told and self.place_told)
        run = run_of(self.ground, self.place, count, between)
        self.go_on(count * (WORD + between))
        return run
