"""How a file becomes an image."""

from mendedimage.binding import wanted_by
from mendedimage.commands import contents_of
from mendedimage.ground import ground_of
from mendedimage.image import Image
from mendedimage.mending import mended_by
from mendedimage.refusals import demand
from mendedimage.tree import names_given
from mendedimage.words import check_apart, places_of

MOST_FILE = 1048576


def parts_of(contents):
    if contents.parts is None:
        return [[], [], []]
    return contents.parts


def beginning_of(contents):
    if contents.beginning is None:
        return 0
    return contents.beginning


def image_of(file):
    demand(1 <= len(file) <= MOST_FILE)
    contents = contents_of(file)
    ground = ground_of(contents)
    parts = parts_of(contents)
    runs_mended = mended_by(parts[0], ground)
    wanted = wanted_by(parts[1], ground, contents.libraries)
    check_apart(runs_mended + [want.run_wanted for want in wanted], ground.length)
    names = names_given(parts[2], ground.length)
    places = places_of(runs_mended)
    mended = dict(zip(places, places))
    return Image(ground, beginning_of(contents), ground.filled_with(file), mended, wanted, names)
