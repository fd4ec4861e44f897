"""Long lists of calls, against the document's words written down once more, as plainly and as slowly as they stand."""

import copy
import math
import random
import unittest
from fractions import Fraction

from helper import GREATEST, given

NOTHING = (Fraction(0), Fraction(0))


class Words:
    """A picture; a thing is a dict, and a group one that has things."""

    def __init__(self):
        self.begin(1, 1)

    def begin(self, w, h):
        if not (1 <= w <= 8 and 1 <= h <= 8):
            return [-1]
        self.w, self.h, self.things, self.made = w, h, [], 0
        return [0]

    def walk(self, things):
        for thing in things:
            yield thing, things
            yield from self.walk(thing.get("things", []))

    def find(self, number):
        for thing, among in self.walk(self.things):
            if thing["number"] == number:
                return thing, among
        return None, None

    def total(self):
        return len(list(self.walk(self.things)))

    def new(self, **more):
        self.made += 1
        return dict(number=self.made - 1, seen=1, strong=255, way=0, clipped=0, **more)

    def layer(self, x, y, w, h, count, *pixels):
        if not (1 <= w <= 8 and 1 <= h <= 8) or x > 64 or y > 64:
            return [-1]
        if len(pixels) != 2 * w * h or any(level > 255 for level in pixels):
            return [-3]
        if self.total() == 10:
            return [-5]
        spots = {(k % w, k // w): (pixels[2 * k], pixels[2 * k + 1]) for k in range(w * h)}
        self.things.append(self.new(x=x - 32, y=y - 32, spots=spots))
        return [self.made - 1]

    def group(self, number, n):
        thing, among = self.find(number)
        if n == 0:
            return [-1]
        if thing is None or among is not self.things:
            return [-2]
        place = self.things.index(thing)
        if len(self.things) - place < n:
            return [-1]
        if self.total() == 10:
            return [-5]
        self.things[place:place + n] = [self.new(things=self.things[place:place + n])]
        return [self.made - 1]

    def open(self, number):
        thing, among = self.find(number)
        if thing is None:
            return [-2]
        if "things" not in thing:
            return [-3]
        place = among.index(thing)
        among[place:place + 1] = thing["things"]
        return [len(thing["things"])]

    def how(self, number, seen, strong, way, clipped):
        thing, among = self.find(number)
        if seen > 1 or strong > 255 or way > 6 or clipped > 1:
            return [-1]
        if thing is None:
            return [-2]
        thing.update(seen=seen, strong=strong, way=way, clipped=clipped)
        return [0]

    def shift(self, number, x, y):
        thing, among = self.find(number)
        if x > 64 or y > 64:
            return [-1]
        if thing is None:
            return [-2]
        if "things" in thing:
            return [-3]
        thing.update(x=x - 32, y=y - 32)
        return [0]

    def paint(self, number, x, y, colour, cover):
        thing, among = self.find(number)
        if colour > 255 or cover > 255:
            return [-1]
        if thing is None:
            return [-2]
        if "things" in thing:
            return [-3]
        if (x, y) not in thing["spots"]:
            return [-1]
        thing["spots"][x, y] = (colour, cover)
        return [0]

    def drop(self, number):
        thing, among = self.find(number)
        if thing is None:
            return [-2]
        among.remove(thing)
        return [self.total()]

    def lift(self, number, p):
        thing, among = self.find(number)
        if thing is None:
            return [-2]
        if len([other for other in self.things if other is not thing]) < p:
            return [-1]
        among.remove(thing)
        self.things.insert(p, thing)
        return [0]

    def dot(self, x, y):
        if x >= self.w or y >= self.h:
            return [-1]
        return [0] + [part for fraction in together(self.things, x, y)
                      for part in (fraction.numerator, fraction.denominator)]

    def row(self, y):
        if y >= self.h:
            return [-1]
        return [self.w] + [level for x in range(self.w) for level in shown(together(self.things, x, y))]

    def matters(self, x, y):
        if x >= self.w or y >= self.h:
            return [-1]
        matter = []
        for thing, among in self.walk(self.things):
            without = copy.deepcopy(self)
            without.drop(thing["number"])
            if without.dot(x, y) != self.dot(x, y):
                matter.append(thing["number"])
        return [len(matter)] + matter

    def flat(self):
        spots = {(x, y): shown(together(self.things, x, y)) for x in range(self.w) for y in range(self.h)}
        self.things = [self.new(x=0, y=0, spots=spots)]
        return [self.made - 1]

    def list(self):
        return [len(self.things)] + [thing["number"] for thing, among in self.walk(self.things)]

    def call(self, number, *told):
        return [self.begin, self.layer, self.group, self.open, self.how, self.shift, self.paint, self.drop, self.lift,
                self.dot, self.row, self.matters, self.flat, self.list][number - 1](*told)


def over(upper, lower, way):
    s, S = upper
    b, B = lower
    M = [S, B * S, B + S - B * S, min(B, S), max(B, S), abs(B - S), min(B + S, 1)][way]
    cover = s + b - s * b
    if cover == 0:
        return NOTHING
    return cover, (S * s * (1 - b) + B * b * (1 - s) + s * b * M) / cover


def dot_of(thing, x, y):
    if not thing["seen"]:
        return NOTHING
    if "things" in thing:
        cover, colour = together(thing["things"], x, y)
    else:
        level, covered = thing["spots"].get((x - thing["x"], y - thing["y"]), (0, 0))
        cover, colour = Fraction(covered, 255), Fraction(level, 255)
    cover = cover * thing["strong"] / 255
    return (cover, colour) if cover else NOTHING


def together(things, x, y):
    so_far = NOTHING
    for place, thing in enumerate(things):
        cover, colour = dot_of(thing, x, y)
        if thing["clipped"]:
            below = [other for other in things[:place] if not other["clipped"]]
            cover = cover * (dot_of(below[-1], x, y)[0] if below else 0)
        so_far = over((cover, colour), so_far, thing["way"])
    return so_far


def shown(dot):
    cover = math.floor(dot[0] * 255 + Fraction(1, 2))
    return (math.floor(dot[1] * 255 + Fraction(1, 2)), cover) if cover else (0, 0)


class Calls:
    """Calls as they come, most of them such that they are taken, and what the words answer to them."""

    def __init__(self, seed, longest):
        self.chance = random.Random(seed)
        self.longest = longest
        self.words = Words()
        self.rows = []
        self.awaited = []

    def upto(self, most):
        """0 to most, now and then something beyond."""
        if self.chance.randrange(60) == 0:
            return self.chance.choice([most + 1, GREATEST])
        return self.chance.randrange(most + 1)

    def thing(self, things=None):
        """The number of one of these things, now and then of one that isn't there."""
        numbers = [thing["number"] for thing in things or []]
        if things is None:
            numbers = [thing["number"] for thing, among in self.words.walk(self.words.things)]
        if not numbers or self.chance.randrange(20) == 0:
            return self.upto(20)
        return self.chance.choice(numbers)

    def level(self):
        return self.chance.choice([0, 255, 255, 51, 85, 102, 170] + [self.upto(255)] * 13)

    def near(self):
        return self.chance.choice([32] * 16 + [31, 31, 33, 33, self.upto(64)])

    def column(self):
        return self.upto(self.words.w - 1)

    def line(self):
        return self.upto(self.words.h - 1)

    def layer(self):
        w, h = self.chance.randint(1, self.longest), self.chance.randint(1, self.longest)
        count = 2 * w * h + (1 if self.chance.randrange(30) == 0 else 0)
        return [2, self.near(), self.near(), w, h, count] + [self.level() for k in range(count)]

    def how(self):
        seen = self.upto(1) if self.chance.randrange(5) == 0 else 1
        clipped = self.upto(1) if self.chance.randrange(3) == 0 else 0
        return [5, self.thing(), seen, self.level(), self.upto(6), clipped]

    def group(self):
        return [3, self.thing(self.words.things), self.chance.choice([1, 1, 2, 2, 3, self.upto(9)])]

    def opened(self):
        groups = [thing for thing, among in self.words.walk(self.words.things) if "things" in thing]
        return [4, self.thing(groups) if self.chance.randrange(4) else self.thing()]

    def change(self):
        return self.chance.choice([
            self.layer, self.layer, self.layer, self.group, self.group, self.how, self.how, self.how, self.opened,
            lambda: [6, self.thing(), self.near(), self.near()],
            lambda: [7, self.thing(), self.chance.randrange(2), self.chance.randrange(2), self.level(), self.level()],
            lambda: [8, self.thing()], lambda: [9, self.thing(), self.upto(len(self.words.things))],
            lambda: [13] if self.chance.randrange(6) == 0 else [14]])()

    def look(self):
        return self.chance.choice([lambda: [10, self.column(), self.line()], lambda: [11, self.line()],
                                   lambda: [12, self.column(), self.line()], lambda: [14]])()

    def begin(self):
        return [1, self.chance.randint(1, self.longest), self.chance.randint(1, self.longest)]

    def say(self, row):
        self.rows.append(row)
        self.awaited.append(self.words.call(*row))

    def say_all(self):
        self.say(self.begin())
        for k in range(self.chance.randint(2, 9)):
            self.say(self.layer())
        while len(self.rows) < 60:
            if self.chance.randrange(200) == 0:
                self.say([1, self.upto(8), self.upto(8)])
            else:
                self.say(self.look() if self.chance.randrange(3) == 0 else self.change())


class AgainstTheWords(unittest.TestCase):

    def compared(self, seeds, longest):
        for seed in seeds:
            calls = Calls(seed, longest)
            calls.say_all()
            with self.subTest(seed=seed):
                self.assertEqual(given(calls.rows), calls.awaited)

    def test_one_pixel_and_few(self):
        self.compared(range(150), 1)
        self.compared(range(150, 250), 2)

    def test_larger_pictures(self):
        self.compared(range(250, 280), 4)
        self.compared(range(280, 290), 8)
