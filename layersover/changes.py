"""The calls that change a picture. Each answers one number; a refusal is below 0 and changes nothing.

The checks of each call stand in the order in which the document tells its refusals.
"""

from layersover.refusals import BAD_NUMBER, FULL, NO_THING, UNFIT
from layersover.seen import shown_row
from layersover.things import GREATEST_LEVEL, Group, Layer
from layersover.things import all_things, find_thing, holder_of, place_of, place_of_pixel, take_out

LONGEST_SIDE = 8
MOST_THINGS = 10
GREATEST_WAY = 6
# Where a layer lies is told so much more than it is, so that no number handed in is below 0.
TOLD_MORE = 32
GREATEST_TOLD = 64


def is_side(number):
    return 1 <= number <= LONGEST_SIDE


def is_full(picture):
    return len(all_things(picture)) >= MOST_THINGS


def begin(picture, w, h):
    if not is_side(w) or not is_side(h):
        return BAD_NUMBER
    picture.begin(w, h)
    return 0


def make_layer(picture, x, y, w, h, pixels):
    if not is_side(w) or not is_side(h) or x > GREATEST_TOLD or y > GREATEST_TOLD:
        return BAD_NUMBER
    if len(pixels) != 2 * w * h or max(pixels) > GREATEST_LEVEL:
        return UNFIT
    if is_full(picture):
        return FULL
    number = picture.take_number()
    # A copy: the layer is painted later, and what is handed in must stay as it is.
    picture.things.append(Layer(number, x - TOLD_MORE, y - TOLD_MORE, w, h, list(pixels)))
    return number


def make_group(picture, lowest, n):
    if n == 0:
        return BAD_NUMBER
    place = place_of(picture, lowest)
    if place is None:
        return NO_THING
    end = place + n
    if end > len(picture.things):
        return BAD_NUMBER
    if is_full(picture):
        return FULL
    number = picture.take_number()
    group = Group(number, picture.things[place:end])
    picture.things = picture.things[:place] + [group] + picture.things[end:]
    return number


def open_group(picture, number):
    group = find_thing(picture, number)
    if group is None:
        return NO_THING
    if not isinstance(group, Group):
        return UNFIT
    holder = holder_of(picture, number)
    place = place_of(holder, number)
    holder.things = holder.things[:place] + group.things + holder.things[place + 1:]
    return len(group.things)


def set_how(picture, number, seen, strong, way, clipped):
    if seen > 1 or strong > GREATEST_LEVEL or way > GREATEST_WAY or clipped > 1:
        return BAD_NUMBER
    thing = find_thing(picture, number)
    if thing is None:
        return NO_THING
    thing.seen = seen
    thing.strong = strong
    thing.way = way
    thing.clipped = clipped
    return 0


def shift_layer(picture, number, x, y):
    if x > GREATEST_TOLD or y > GREATEST_TOLD:
        return BAD_NUMBER
    layer = find_thing(picture, number)
    if layer is None:
        return NO_THING
    if not isinstance(layer, Layer):
        return UNFIT
    layer.x = x - TOLD_MORE
    layer.y = y - TOLD_MORE
    return 0


def paint_layer(picture, number, x, y, colour, cover):
    if colour > GREATEST_LEVEL or cover > GREATEST_LEVEL:
        return BAD_NUMBER
    layer = find_thing(picture, number)
    if layer is None:
        return NO_THING
    if not isinstance(layer, Layer):
        return UNFIT
    place = place_of_pixel(layer, x, y)
    if place is None:
        return BAD_NUMBER
    layer.pixels[place] = colour
    layer.pixels[place + 1] = cover
    return 0


def drop_thing(picture, number):
    holder = holder_of(picture, number)
    if holder is None:
        return NO_THING
    take_out(holder, number)
    return len(all_things(picture))


def lift_thing(picture, number, p):
    thing = find_thing(picture, number)
    if thing is None:
        return NO_THING
    # It can't be below itself, so it doesn't count where it's in no group already.
    others = [other for other in picture.things if other.number != number]
    if p > len(others):
        return BAD_NUMBER
    take_out(holder_of(picture, number), number)
    picture.things = others[:p] + [thing] + others[p:]
    return 0


def make_flat(picture):
    pixels = []
    for y in range(picture.height):
        pixels.extend(shown_row(picture, y))
    number = picture.take_number()
    picture.things = [Layer(number, 0, 0, picture.width, picture.height, pixels)]
    return number
