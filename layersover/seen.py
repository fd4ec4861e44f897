"""What is seen at a pixel: the dots of layers and groups, and of a picture's things put together.

They call one another, as a picture has too few things for groups to be nested deep. Left out is the number of a thing
that is passed over, with what's in it, or None.
"""

from layersover.dots import Dot, nothing, over, shown, weakened
from layersover.things import GREATEST_LEVEL, Layer, place_of_pixel


def dot_of_picture(picture, x, y, left_out):
    return put_together(picture.things, x, y, left_out)


def put_together(things, x, y, left_out):
    so_far = nothing()
    # What clipped things are clipped to: the dot of the nearest thing below that isn't clipped.
    base = nothing()
    for thing in things:
        if thing.number == left_out:
            continue
        dot = dot_of_thing(thing, x, y, left_out)
        if thing.clipped == 1:
            dot = weakened(dot, base.cover, base.whole)
        else:
            base = dot
        so_far = over(dot, so_far, thing.way)
    return so_far


def dot_of_thing(thing, x, y, left_out):
    if thing.seen == 0:
        return nothing()
    if isinstance(thing, Layer):
        dot = dot_of_layer(thing, x, y)
    else:
        dot = put_together(thing.things, x, y, left_out)
    return weakened(dot, thing.strong, GREATEST_LEVEL)


def dot_of_layer(layer, x, y):
    place = place_of_pixel(layer, x - layer.x, y - layer.y)
    if place is None:
        return nothing()
    colour = layer.pixels[place]
    cover = layer.pixels[place + 1]
    return Dot(cover * GREATEST_LEVEL, cover * colour, GREATEST_LEVEL * GREATEST_LEVEL)


# Colour and cover of each pixel of a row, in one list as a layer has them.
def shown_row(picture, y):
    levels = []
    for x in range(picture.width):
        levels.extend(shown(dot_of_picture(picture, x, y, None)))
    return levels
