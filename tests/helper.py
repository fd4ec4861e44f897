"""Calls written out as rows, and a picture's state written out to compare."""

import unittest

from layersover.pictures import answers, go_through
from layersover.things import Group, Picture

GREATEST = 18446744073709551615


def begin(w, h):
    return [1, w, h]


def layer(x=32, y=32, w=1, h=1, pixels=(10, 20)):
    return [2, x, y, w, h, len(pixels)] + list(pixels)


def group(thing, n):
    return [3, thing, n]


def open_group(thing):
    return [4, thing]


def how(thing, seen=1, strong=255, way=0, clipped=0):
    return [5, thing, seen, strong, way, clipped]


def shift(thing, x, y):
    return [6, thing, x, y]


def paint(thing, x, y, colour, cover):
    return [7, thing, x, y, colour, cover]


def drop(thing):
    return [8, thing]


def lift(thing, p):
    return [9, thing, p]


def dot(x=0, y=0):
    return [10, x, y]


def row(y=0):
    return [11, y]


def matters(x=0, y=0):
    return [12, x, y]


def flat():
    return [13]


def list_all():
    return [14]


def layers(count):
    return [layer() for k in range(count)]


def in_one(rows):
    return [number for row in rows for number in row]


def by_call(given):
    """The answers in one list, taken apart: a list of numbers for each call."""
    apart = []
    place = 0
    while place < len(given):
        end = place + 1 + given[place]
        apart.append(given[place + 1:end])
        place = end
    return apart


def given(rows):
    apart = by_call(answers(in_one(rows)))
    if len(apart) != len(rows):
        raise AssertionError("not an answer for each call: " + repr(apart))
    return apart


def firsts(rows):
    """The one number that each of these calls answers."""
    apart = given(rows)
    if any(len(numbers) != 1 for numbers in apart):
        raise AssertionError("not one number for each call: " + repr(apart))
    return in_one(apart)


def last(rows):
    """What the last of these calls answers, number by number."""
    return given(rows)[-1]


def all_dots(rows):
    """Of each pixel, row by row, what dot answers behind these calls."""
    picture = picture_after(rows)
    return [last(rows + [dot(x, y)]) for y in range(picture.height) for x in range(picture.width)]


def all_rows(rows):
    return [last(rows + [row(y)]) for y in range(picture_after(rows).height)]


def picture_after(rows):
    picture = Picture()
    go_through(picture, in_one(rows))
    return picture


def thing_state(thing):
    shared = (thing.number, thing.seen, thing.strong, thing.way, thing.clipped)
    if isinstance(thing, Group):
        return shared + ([thing_state(inner) for inner in thing.things],)
    return shared + (thing.x, thing.y, thing.width, thing.height, list(thing.pixels))


def state(rows):
    picture = picture_after(rows)
    things = [thing_state(thing) for thing in picture.things]
    return (picture.width, picture.height, picture.next_number, things)


def numbers_in(holder):
    return [(thing.number, numbers_in(thing)) if isinstance(thing, Group) else thing.number
            for thing in holder.things]


def order(rows):
    """Numbers from below to above; a group is a pair of its number and its things' numbers."""
    return numbers_in(picture_after(rows))


class CallCase(unittest.TestCase):

    def refused(self, rows, call, refusal):
        """This call behind these rows is refused so, and all is as it was."""
        with self.subTest(call=call[:8], refusal=refusal):
            self.assertEqual(last(rows + [call]), [refusal])
            self.assertEqual(state(rows + [call]), state(rows))

    def taken(self, rows, call, answer=0):
        with self.subTest(call=call[:8], answer=answer):
            self.assertEqual(last(rows + [call]), [answer])

    def looked(self, rows, call, answer):
        """This call behind these rows answers so, number by number, and all is as it was."""
        with self.subTest(call=call, answer=answer):
            self.assertEqual(last(rows + [call]), answer)
            self.assertEqual(state(rows + [call]), state(rows))
