"""How a file becomes an image."""

from mendedimage.binding import wanted_by
from mendedimage.commands import contents_of
from mendedimage.ground import ground_of
from mendedimage.image import Image
from mendedimage.mending import mended_by
from mendedimage.refusals import demand
from mendedimage.tree import names_given
from mendedimage.words import check_apart, places_of

MOST_FILE = 1048576


def image_of(file):
    demand(1 <= len(file) <= MOST_FILE)
    contents = contents_of(file)
    ground = ground_of(contents)
    parts = contents.parts
    if parts is None:
        parts = [[], [], []]
    mended = mended_by(parts[0], ground)
    wanted = wanted_by(parts[1], ground, contents.libraries)
    check_apart(mended + [want.run_wanted for want in wanted], ground.length)
    # No call asks for the names yet: the tree is only held to its form.
    names_given(parts[2], ground.length)
    places = places_of(mended)
    return Image(ground.home, ground.filled_with(file), dict(zip(places, places)))
