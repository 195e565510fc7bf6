"""How the segments lie in the image."""

from mendedimage.refusals import demand

MOST_LAID = 16
MOST_REACH = 4194304
TOP = 0x800000000000
WRITTEN = 2


# Places are counted from the first laid segment's place, which is home; the spans are where words may be.
class Ground:
    def __init__(self, segments, laid):
        self.segments = segments
        self.laid = laid
        self.home = laid[0].place
        self.length = laid[-1].place + laid[-1].size - self.home
        self.spans = [span_of(segment, self.home) for segment in laid if segment.rights & WRITTEN]

    def place_of(self, index):
        demand(index < len(self.segments))
        segment = self.segments[index]
        demand(index > 0 or not is_bare(segment))
        return segment.place - self.home

    def filled_with(self, file):
        held = [0] * self.length
        for segment in self.laid:
            begin = segment.place - self.home
            for k in range(segment.filled):
                held[begin + k] = file[segment.source + k]
        return held


# Where in the image a segment begins and ends.
def span_of(segment, home):
    return (segment.place - home, segment.place - home + segment.size)


def is_bare(segment):
    return segment.filled == 0 and segment.rights == 0


def laid_of(segments):
    if segments and is_bare(segments[0]):
        return segments[1:]
    return list(segments)


def check_row(laid):
    demand(1 <= len(laid) <= MOST_LAID)
    end = laid[0].place
    for segment in laid:
        demand(segment.place >= end)
        demand(segment.size > 0)
        end = segment.place + segment.size
    demand(end < TOP)
    demand(end - laid[0].place <= MOST_REACH)


def check_first(first, contents):
    demand(first.source == 0)
    demand(first.filled >= contents.reach)
    demand(contents.beginning is None or contents.beginning < first.filled)


def ground_of(contents):
    laid = laid_of(contents.segments)
    check_row(laid)
    check_first(laid[0], contents)
    return Ground(contents.segments, laid)
