"""Calls written out as rows, and a picture's state written out to compare."""

import unittest

from layersover.pictures import answers, go_through
from layersover.things import Group, Picture

GREATEST = 18446744073709551615


def begin(w, h):
    return [1, w, h]


def layer(x=32, y=32, w=1, h=1, pixels=(10, 20)):
    return [2, x, y, w, h, len(pixels)] + list(pixels)


def group(thing, n):
    return [3, thing, n]


def open_group(thing):
    return [4, thing]


def how(thing, seen=1, strong=255, way=0, clipped=0):
    return [5, thing, seen, strong, way, clipped]


def shift(thing, x, y):
    return [6, thing, x, y]


def paint(thing, x, y, colour, cover):
    return [7, thing, x, y, colour, cover]


def layers(count):
    return [layer() for k in range(count)]


def in_one(rows):
    return [number for row in rows for number in row]


def firsts(rows):
    """The one number that each of these calls answers."""
    given = answers(in_one(rows))
    if len(given) != 2 * len(rows) or given[0::2] != [1] * len(rows):
        raise AssertionError("not one number for each call: " + repr(given))
    return given[1::2]


def last(rows):
    return firsts(rows)[-1]


def picture_after(rows):
    picture = Picture()
    go_through(picture, in_one(rows))
    return picture


def thing_state(thing):
    shared = (thing.number, thing.seen, thing.strong, thing.way, thing.clipped)
    if isinstance(thing, Group):
        return shared + ([thing_state(inner) for inner in thing.things],)
    return shared + (thing.x, thing.y, thing.width, thing.height, list(thing.pixels))


def state(rows):
    picture = picture_after(rows)
    things = [thing_state(thing) for thing in picture.things]
    return (picture.width, picture.height, picture.next_number, things)


def numbers_in(holder):
    return [(thing.number, numbers_in(thing)) if isinstance(thing, Group) else thing.number
            for thing in holder.things]


def order(rows):
    """Numbers from below to above; a group is a pair of its number and its things' numbers."""
    return numbers_in(picture_after(rows))


class CallCase(unittest.TestCase):

    def refused(self, rows, call, refusal):
        """This call behind these rows is refused so, and all is as it was."""
        with self.subTest(call=call[:8], refusal=refusal):
            self.assertEqual(last(rows + [call]), refusal)
            self.assertEqual(state(rows + [call]), state(rows))

    def taken(self, rows, call, answer=0):
        with self.subTest(call=call[:8], answer=answer):
            self.assertEqual(last(rows + [call]), answer)
