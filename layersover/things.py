"""What a picture holds: layers and groups, each with its number."""

# Of colours, of covers and of how strong a thing is.
GREATEST_LEVEL = 255


class Thing:

    def __init__(self, number):
        self.number = number
        self.seen = 1
        self.strong = GREATEST_LEVEL
        self.way = 0
        self.clipped = 0


class Layer(Thing):

    # x and y are where its first pixel lies on the picture, -32 to 32: as they are, not as they are told.
    def __init__(self, number, x, y, width, height, pixels):
        Thing.__init__(self, number)
        self.x = x
        self.y = y
        self.width = width
        self.height = height
        # Row by row, colour and cover of each pixel, in one list as they are handed in.
        self.pixels = pixels


class Group(Thing):

    # Things stand from below to above, here and in a picture.
    def __init__(self, number, things):
        Thing.__init__(self, number)
        self.things = things


class Picture:

    def __init__(self):
        self.begin(1, 1)

    # The picture itself begins again, as those who hold it must see that.
    def begin(self, width, height):
        self.width = width
        self.height = height
        # Those in no group alone: the others are found through their groups.
        self.things = []
        self.next_number = 0

    # Counted on its own: the number of a thing that is gone must not come again.
    def take_number(self):
        number = self.next_number
        self.next_number = number + 1
        return number


# All things in a picture or a group, from below, a group ahead of what's in it.
# It calls itself, as a picture has too few things for groups to be nested deep.
def all_things(holder):
    found = []
    for thing in holder.things:
        found.append(thing)
        if isinstance(thing, Group):
            found.extend(all_things(thing))
    return found


# The thing of this number, in a group or not; None if there's none.
def find_thing(picture, number):
    for thing in all_things(picture):
        if thing.number == number:
            return thing
    return None


# How many things stand below this one right in a picture or a group; None if it isn't there.
def place_of(holder, number):
    for place, thing in enumerate(holder.things):
        if thing.number == number:
            return place
    return None


# The picture or the group right in which this thing stands; None if there's no such thing.
def holder_of(picture, number):
    groups = [thing for thing in all_things(picture) if isinstance(thing, Group)]
    for holder in [picture] + groups:
        if place_of(holder, number) is not None:
            return holder
    return None


# Takes this thing, with what's in it, out of the picture or the group right in which it stands.
def take_out(holder, number):
    holder.things = [thing for thing in holder.things if thing.number != number]


# Where in a layer's pixels its own pixel (x, y) begins; None if it hasn't such a pixel.
def place_of_pixel(layer, x, y):
    if 0 <= x < layer.width and 0 <= y < layer.height:
        return 2 * (y * layer.width + x)
    return None
