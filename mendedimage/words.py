"""Runs of words that lie evenly apart."""

from mendedimage.reading import MODULUS
from mendedimage.refusals import demand

WORD = 8
MOST_WORDS = 65536


# The stride may be below 0: a place that goes on modulo 2^64 may come back.
class Run:
    def __init__(self, place, count, stride):
        self.place = place
        self.count = count
        self.stride = stride

    def lowest(self):
        return min(self.place, self.place_of_word(self.count - 1))

    def place_of_word(self, k):
        return self.place + self.stride * k

    def places(self):
        return list(range(self.place, self.place_of_word(self.count), self.stride))


def stride_of(count, between):
    if count < 2:
        # There's no second word, so this is only what keeps a division by 0 away.
        return WORD
    stride = (WORD + between) % MODULUS
    return stride if stride < MODULUS // 2 else stride - MODULUS


# How many of the run's words begin at the bound or before it.
def words_up_to(run, bound):
    return max(0, min(run.count, (bound - run.lowest()) // abs(run.stride) + 1))


def words_within(run, span):
    return words_up_to(run, span[1] - WORD) - words_up_to(run, span[0] - 1)


# Counted by segments, not word by word: many long runs may be told in a few bytes.
def run_of(ground, place, count, between):
    demand(count <= MOST_WORDS)
    run = Run(place, count, stride_of(count, between))
    demand(abs(run.stride) >= WORD)
    demand(sum([words_within(run, span) for span in ground.spans]) == count)
    return run


def places_of(runs):
    places = []
    for run in runs:
        places.extend(run.places())
    return places


def check_apart(runs, length):
    # More than these can't lie apart; asked first, so that no list grows beyond the image.
    demand(sum([run.count for run in runs]) <= length // WORD)
    places = sorted(places_of(runs))
    close = [after for before, after in zip(places, places[1:]) if after - before < WORD]
    demand(not close)
