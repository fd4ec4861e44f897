"""The document's promises, one class each, over several pictures."""

import unittest

from helper import (all_dots, all_rows, begin, drop, flat, group, how, last, layer, layers, lift, matters, open_group,
                    picture_after, shift)

# One of all pixels of a picture of 3 times 2, of many colours and covers, wholly covered and not covered ones too.
A = layer(32, 32, 3, 2, [10, 255, 200, 30, 90, 0, 255, 128, 0, 77, 140, 201])
B = layer(33, 32, 2, 2, [70, 100, 3, 255, 250, 50, 33, 99])
C = layer(31, 31, 3, 3, [1, 1, 2, 2, 3, 3, 60, 255, 120, 180, 180, 20, 240, 7, 19, 255, 128, 128])
D = layer(32, 33, 3, 1, [99, 40, 199, 140, 9, 255])
# Wholly covered, everywhere.
WHOLE = layer(32, 32, 3, 2, [17, 255, 34, 255, 51, 255, 68, 255, 85, 255, 102, 255])
OTHER_WHOLE = layer(32, 32, 3, 2, [200, 255, 0, 255, 255, 255, 9, 255, 85, 255, 31, 255])

START = [begin(3, 2)]
FOUR = START + [A, B, C, D]


def pixels_of(rows):
    picture = picture_after(rows)
    return [(x, y) for y in range(picture.height) for x in range(picture.width)]


class PlainGroup(unittest.TestCase):

    def opened(self, rows, number):
        with self.subTest(rows=rows, group=number):
            self.assertEqual(all_dots(rows + [open_group(number)]), all_dots(rows))

    def test_of_layers(self):
        for thing, n in [(0, 1), (0, 2), (0, 4), (1, 2), (2, 2), (3, 1)]:
            self.opened(FOUR + [group(thing, n)], 4)

    def test_of_layers_not_so_strong_or_not_seen(self):
        rows = FOUR + [how(1, strong=100), how(2, seen=0), how(3, strong=7)]
        for thing, n in [(0, 3), (1, 2), (1, 3), (2, 1)]:
            self.opened(rows + [group(thing, n)], 4)

    def test_between_things_of_other_ways(self):
        for way in range(1, 7):
            rows = FOUR + [how(0, way=way), how(3, way=way, strong=150), group(1, 2)]
            self.opened(rows, 4)

    def test_of_groups_of_way_0_whatever_is_in_them(self):
        for way in range(7):
            rows = FOUR + [how(2, way=way, clipped=1), group(1, 2), how(4, strong=99), group(0, 2)]
            self.opened(rows, 5)

    def test_in_a_group_that_is_not_plain(self):
        for way in range(7):
            rows = FOUR + [group(1, 2), group(4, 2), how(5, strong=88, way=way, clipped=1)]
            self.opened(rows, 4)

    def test_with_something_clipped_but_not_right_above(self):
        rows = FOUR + [group(0, 2), how(3, clipped=1)]
        self.opened(rows, 4)
        self.opened(START + [A, C, how(1, clipped=1), B, D, group(2, 2)], 4)

    def test_without_things(self):
        self.opened(FOUR + [group(1, 1), drop(1)], 4)
        self.opened(FOUR + [group(1, 2), lift(1, 0), lift(2, 0)], 4)

    def test_a_group_that_is_not_plain_may_be_seen_otherwise(self):
        rows = FOUR + [group(1, 2)]
        for call in (how(4, strong=99), how(4, way=5), how(4, clipped=1), how(4, seen=0), how(1, way=5)):
            self.assertNotEqual(all_dots(rows + [call, open_group(4)]), all_dots(rows + [call]))


class Flat(unittest.TestCase):

    def made_flat(self, rows):
        with self.subTest(rows=rows):
            self.assertEqual(all_rows(rows + [flat()]), all_rows(rows))

    def test_each_way(self):
        for way in range(7):
            self.made_flat(FOUR + [how(1, way=way), how(2, way=way, strong=200), how(3, way=way, clipped=1)])

    def test_groups(self):
        self.made_flat(FOUR + [group(1, 2), how(4, strong=50, way=2), group(0, 2), how(5, way=6)])
        self.made_flat(FOUR + [group(0, 4), drop(1), drop(2), how(4, strong=1)])

    def test_hardly_covered(self):
        for strong in (0, 1, 2, 3, 5, 9):
            self.made_flat(FOUR + [how(k, strong=strong) for k in range(4)])

    def test_halves(self):
        self.made_flat([layer(pixels=(10, 170)), layer(pixels=(11, 102))])
        self.made_flat([layer(pixels=(254, 34)), layer(pixels=(255, 30))])

    def test_no_things(self):
        self.made_flat([])
        self.made_flat(START)
        self.made_flat([begin(8, 8)])

    def test_not_seen_or_beyond(self):
        self.made_flat(FOUR + [how(0, seen=0), shift(1, 0, 0), shift(2, 64, 64)])

    def test_flat_and_more_above_it(self):
        rows = FOUR + [flat(), B, how(5, way=5)]
        self.made_flat(rows)


class WhollyCovered(unittest.TestCase):

    def nothing_below_matters(self, rows, below):
        for x, y in pixels_of(rows):
            with self.subTest(rows=rows, x=x, y=y):
                matter = last(rows + [matters(x, y)])[1:]
                self.assertEqual([number for number in matter if number in below], [])
                # Something does matter: where nothing ever did the test would tell nothing.
                self.assertNotEqual(matter, [])

    def test_a_layer(self):
        self.nothing_below_matters(FOUR + [WHOLE], range(4))
        self.nothing_below_matters(START + [A, B, WHOLE, D, how(3, way=5)], [0, 1])
        self.nothing_below_matters(START + [A, WHOLE, B, C, how(3, clipped=1), D], [0])

    def test_each_way_below_and_above(self):
        for way in range(7):
            rows = START + [A, B, C, WHOLE, D] + [how(k, way=way) for k in (0, 1, 2, 4)]
            self.nothing_below_matters(rows + [how(2, way=way, clipped=1)], [0, 1, 2])

    def test_groups_below(self):
        rows = FOUR + [WHOLE, group(0, 2), group(5, 2), how(5, strong=100), how(6, way=3)]
        self.nothing_below_matters(rows, [0, 1, 2, 3, 5, 6])

    def test_a_group(self):
        self.nothing_below_matters(START + [A, B, WHOLE, C, group(2, 2)], [0, 1])
        # In the group it needn't be plain, as long as the group covers it all.
        self.nothing_below_matters(START + [A, B, C, WHOLE, how(3, way=4), group(2, 2)], [0, 1])

    def test_where_it_covers_wholly_alone(self):
        rows = START + [WHOLE, D]
        self.assertEqual(last(rows + [matters(2, 1)]), [1, 1])
        self.assertEqual(last(rows + [matters(1, 1)]), [2, 0, 1])

    def test_what_is_not_plain_leaves_what_is_below(self):
        for call in (how(1, strong=254), how(1, way=5), how(1, seen=0)):
            self.assertIn(0, last(START + [WHOLE, OTHER_WHOLE, call, matters(0, 0)])[1:])


class Nothing(unittest.TestCase):

    def itself(self, rows, number):
        """A thing of whatever way over nothing, and nothing of whatever way over it."""
        alone = all_dots(rows)
        clear = layer(32, 32, 3, 2, [255, 0] * 6)
        for way in range(7):
            with self.subTest(rows=rows, way=way):
                self.assertEqual(all_dots(rows + [how(number, way=way)]), alone)
                self.assertEqual(all_dots(rows + [clear, lift(number, 1), how(number, way=way)]), alone)
                self.assertEqual(all_dots(rows + [clear, how(number + 1, way=way)]), alone)
                self.assertEqual(all_dots(rows + [WHOLE, how(number + 1, way=way, strong=0)]), alone)

    def test_a_layer(self):
        for one in (A, B, C, D, WHOLE):
            self.itself(START + [one], 0)

    def test_a_group(self):
        self.itself(FOUR + [how(2, way=5), group(0, 4)], 4)
        self.itself(layers(1) + [group(0, 1), drop(0)], 1)

    def test_over_nothing_a_layer_is_what_its_pixels_are(self):
        self.assertEqual(all_dots(START + [layer(32, 32, 1, 2, [51, 170, 85, 102])]),
                         [[0, 2, 3, 1, 5]] + [[0, 0, 1, 0, 1]] * 2 + [[0, 2, 5, 1, 3]] + [[0, 0, 1, 0, 1]] * 2)

    def test_two_that_cover_wholly_may_change_places(self):
        for one, other in [(WHOLE, OTHER_WHOLE), (OTHER_WHOLE, WHOLE), (WHOLE, WHOLE)]:
            for way in range(1, 7):
                with self.subTest(way=way):
                    self.assertEqual(all_dots(START + [one, other, how(1, way=way)]),
                                     all_dots(START + [other, one, how(1, way=way)]))

    def test_two_that_cover_wholly_lifted(self):
        for way in range(1, 7):
            rows = START + [A, WHOLE, group(0, 2), OTHER_WHOLE, how(3, way=way), how(2, way=way)]
            with self.subTest(way=way):
                self.assertEqual(all_dots(rows + [lift(2, 1)]), all_dots(rows))

    def test_by_way_0_they_may_not(self):
        self.assertNotEqual(all_dots(START + [WHOLE, OTHER_WHOLE]), all_dots(START + [OTHER_WHOLE, WHOLE]))


class NotSeen(unittest.TestCase):

    def as_if_not_there(self, rows, number):
        with self.subTest(rows=rows, thing=number):
            hidden = rows + [how(number, 0, 255, 0, 0)]
            self.assertEqual(all_dots(hidden), all_dots(rows + [drop(number)]))
            for x, y in pixels_of(rows):
                self.assertNotIn(number, last(hidden + [matters(x, y)])[1:])

    def test_layers(self):
        for number in range(4):
            self.as_if_not_there(FOUR, number)

    def test_among_other_ways(self):
        for way in range(1, 7):
            rows = FOUR + [how(k, way=way) for k in range(4)]
            for number in range(4):
                self.as_if_not_there(rows, number)

    def test_whatever_it_is_otherwise(self):
        for way in range(7):
            for clipped in (0, 1):
                with self.subTest(way=way, clipped=clipped):
                    hidden = FOUR + [how(2, 0, 77, way, clipped)]
                    self.assertEqual(all_dots(hidden), all_dots(FOUR + [drop(2)]))

    def test_groups(self):
        rows = FOUR + [group(1, 2), how(2, way=5)]
        self.as_if_not_there(rows, 4)
        self.as_if_not_there(FOUR + [group(0, 4)], 4)

    def test_in_groups(self):
        rows = FOUR + [group(1, 3), how(4, strong=100, way=1), group(0, 2)]
        for number in (0, 1, 2, 3, 4):
            self.as_if_not_there(rows, number)

    def test_with_something_clipped_but_not_right_above(self):
        self.as_if_not_there(FOUR + [how(3, clipped=1)], 1)

    def test_something_clipped_right_above_is_seen_otherwise(self):
        rows = FOUR + [how(2, clipped=1), how(1, seen=0)]
        self.assertNotEqual(all_dots(rows), all_dots(rows + [drop(1)]))
