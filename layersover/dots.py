"""Dots: how much of a pixel is covered, and in which colour, as exact fractions."""

from layersover.things import GREATEST_LEVEL


class Dot:

    # Divided by whole, cover is how much is covered, and tint is that times the colour. Kept so, two dots are put
    # together without dividing: lowest terms are needed for an answer alone.
    def __init__(self, cover, tint, whole):
        self.cover = cover
        self.tint = tint
        self.whole = whole


def nothing():
    return Dot(0, 0, 1)


# A dot that covers so many times (a fraction) what this one covers, in the same colour.
def weakened(dot, upper, lower):
    return Dot(dot.cover * upper, dot.tint * upper, dot.whole * lower)


def over(above, below, way):
    cover = above.cover * below.whole + below.cover * above.whole - above.cover * below.cover
    alone = above.tint * (below.whole - below.cover) + below.tint * (above.whole - above.cover)
    return Dot(cover, alone + mixed(above, below, way), above.whole * below.whole)


# The document's M times what both cover, so that neither colour has to be divided out of its tint.
def mixed(above, below, way):
    both = above.cover * below.cover
    colour_above = above.tint * below.cover
    colour_below = below.tint * above.cover
    product = above.tint * below.tint
    if way == 0:
        return colour_above
    if way == 1:
        return product
    if way == 2:
        return colour_below + colour_above - product
    if way == 3:
        return min(colour_below, colour_above)
    if way == 4:
        return max(colour_below, colour_above)
    if way == 5:
        return abs(colour_below - colour_above)
    return min(colour_below + colour_above, both)


def is_same(one, other):
    return one.cover * other.whole == other.cover * one.whole and one.tint * other.whole == other.tint * one.whole


# Cover and colour, of each the upper and the lower number.
def in_lowest_terms(dot):
    return lowest_terms(dot.cover, dot.whole) + colour_in_lowest_terms(dot)


def colour_in_lowest_terms(dot):
    if dot.cover == 0:
        return [0, 1]
    return lowest_terms(dot.tint, dot.cover)


def lowest_terms(upper, lower):
    divisor = greatest_divisor(upper, lower)
    return [upper // divisor, lower // divisor]


def greatest_divisor(upper, lower):
    divisor = lower
    rest = upper
    while rest != 0:
        remainder = divisor % rest
        divisor = rest
        rest = remainder
    return divisor


# Colour and cover as whole numbers.
def shown(dot):
    cover = nearest_level(dot.cover, dot.whole)
    if cover == 0:
        return [0, 0]
    return [nearest_level(dot.tint, dot.cover), cover]


# A half is added ahead of rounding down, so that a half goes up.
def nearest_level(upper, lower):
    return (2 * GREATEST_LEVEL * upper + lower) // (2 * lower)
