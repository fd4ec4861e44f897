from helper import (GREATEST, CallCase, begin, dot, drop, flat, group, how, last, layer, layers, lift, matters,
                    open_group, row)

FULL_DARK = layer(pixels=(51, 255))
FULL_LIGHT = layer(pixels=(204, 255))
PART_DARK = layer(pixels=(51, 85))
PART_LIGHT = layer(pixels=(204, 85))
CLEAR = layer(pixels=(204, 0))


class Matters(CallCase):

    def test_no_things_at_all(self):
        self.looked([], matters(), [0])
        self.looked([begin(8, 8)], matters(7, 7), [0])

    def test_how_many_things_then_their_numbers(self):
        self.looked([FULL_DARK], matters(), [1, 0])
        self.looked([FULL_DARK, PART_LIGHT], matters(), [2, 0, 1])
        self.looked([FULL_DARK, PART_LIGHT, PART_DARK], matters(), [3, 0, 1, 2])

    def test_what_is_wholly_covered_does_not_matter(self):
        self.looked([FULL_DARK, PART_DARK, FULL_LIGHT], matters(), [1, 2])
        self.looked([FULL_DARK, FULL_LIGHT, PART_DARK], matters(), [2, 1, 2])

    def test_what_is_not_there_does_not_matter(self):
        self.looked([FULL_DARK, CLEAR], matters(), [1, 0])
        self.looked([CLEAR], matters(), [0])
        self.looked([FULL_DARK, PART_LIGHT, how(1, seen=0)], matters(), [1, 0])
        self.looked([FULL_DARK, PART_LIGHT, how(1, strong=0)], matters(), [1, 0])
        self.looked([FULL_DARK, PART_LIGHT, how(1, clipped=1), how(0, clipped=1)], matters(), [0])

    def test_pixel_by_pixel(self):
        rows = [begin(3, 2), layer(32, 32, 2, 1, [1, 255, 2, 255]), layer(33, 32, 2, 1, [3, 255, 4, 255])]
        self.looked(rows, matters(0, 0), [1, 0])
        self.looked(rows, matters(1, 0), [1, 1])
        self.looked(rows, matters(2, 0), [1, 1])
        self.looked(rows, matters(0, 1), [0])

    def test_the_dot_is_the_same_without_it(self):
        # The same colour over all that is covered, the lesser of two that is the lower one, and 1 as a factor.
        self.looked([FULL_DARK, PART_DARK], matters(), [1, 0])
        self.looked([FULL_DARK, PART_LIGHT, how(1, way=3)], matters(), [1, 0])
        self.looked([FULL_DARK, layer(pixels=(255, 255)), how(1, way=1)], matters(), [1, 0])
        self.looked([FULL_DARK, FULL_DARK], matters(), [0])

    def test_the_colour_is_the_same_but_not_what_is_covered(self):
        self.looked([PART_DARK, PART_DARK], matters(), [2, 0, 1])

    def test_what_is_covered_is_the_same_but_not_the_colour(self):
        self.looked([FULL_DARK, PART_LIGHT], matters(), [2, 0, 1])

    def test_exactly_and_not_as_it_is_shown(self):
        rows = [FULL_DARK, layer(pixels=(52, 1)), how(1, strong=1)]
        self.looked(rows, matters(), [2, 0, 1])
        self.assertEqual(last(rows + [row()]), last(rows + [drop(1), row()]))

    def test_it_is_as_if_it_were_dropped(self):
        # Without the second one the third is clipped to the first, which covers just as much.
        rows = [FULL_DARK, FULL_DARK, PART_LIGHT, how(2, clipped=1)]
        self.looked(rows, matters(), [1, 2])
        # Not seen, but without it what is above would be clipped to something that is.
        rows = [FULL_DARK, FULL_DARK, how(1, seen=0), PART_LIGHT, how(2, clipped=1)]
        self.looked(rows, matters(), [2, 0, 1])
        self.looked(rows + [drop(1)], matters(), [2, 0, 2])

    def test_what_is_clipped_to_it_goes_with_it(self):
        # Nothing else is there to be clipped to: without the first one nothing is covered.
        self.looked([PART_DARK, PART_LIGHT, how(1, clipped=1)], matters(), [2, 0, 1])

    def test_a_group_ahead_of_what_is_in_it(self):
        rows = [FULL_DARK, PART_LIGHT, PART_DARK, group(1, 2), PART_LIGHT]
        self.looked(rows, matters(), [5, 0, 3, 1, 2, 4])
        self.looked(rows + [lift(3, 2)], matters(), [5, 0, 4, 3, 1, 2])

    def test_groups_in_groups(self):
        rows = [PART_LIGHT, PART_DARK, PART_LIGHT, group(0, 2), group(3, 2), group(4, 1)]
        self.looked(rows, matters(), [6, 5, 4, 3, 0, 1, 2])

    def test_not_all_in_a_group_matter(self):
        rows = [PART_DARK, FULL_LIGHT, CLEAR, group(0, 3)]
        self.looked(rows, matters(), [2, 3, 1])

    def test_a_group_matters_though_nothing_in_it_does(self):
        # Either of the two in it is enough, but not none of them.
        self.looked([FULL_DARK, FULL_DARK, group(0, 2)], matters(), [1, 2])

    def test_a_group_does_not_matter_though_what_is_in_it_does(self):
        # The group is of the lesser colour of the two in it, which is the colour of what's below it, too.
        rows = [FULL_DARK, FULL_DARK, FULL_LIGHT, how(2, way=3), group(1, 2)]
        self.looked(rows, dot(), [0, 1, 1, 1, 5])
        self.looked(rows, matters(), [1, 1])

    def test_a_group_that_is_covered(self):
        rows = [FULL_DARK, PART_LIGHT, group(0, 2), FULL_LIGHT]
        self.looked(rows, matters(), [1, 3])
        self.looked(rows + [open_group(2)], matters(), [1, 3])

    def test_a_group_without_things(self):
        rows = [FULL_DARK, PART_LIGHT, group(1, 1), drop(1)]
        self.looked(rows, matters(), [1, 0])
        # It doesn't cover anything itself, but is what the one above it is clipped to.
        self.looked(rows + [PART_LIGHT, how(3, clipped=1)], matters(), [2, 0, 2])

    def test_behind_flat(self):
        self.looked([FULL_DARK, PART_LIGHT, flat()], matters(), [1, 2])

    def test_ten_things(self):
        rows = [layer(pixels=(25 * k, 85)) for k in range(10)]
        self.looked(rows, matters(), [10] + list(range(10)))
        self.looked(rows + [drop(9), FULL_DARK], matters(), [1, 10])

    def test_the_last_column_and_row_and_one_beyond(self):
        for w, h in [(1, 1), (3, 2), (8, 8), (1, 8), (8, 1)]:
            rows = [begin(w, h), layer(31 + w, 31 + h)]
            self.looked(rows, matters(w - 1, h - 1), [1, 0])
            for x, y in [(w, 0), (0, h), (w, h), (w, h - 1), (w - 1, h)]:
                self.refused(rows, matters(x, y), -1)

    def test_no_such_pixel(self):
        for x, y in [(GREATEST, 0), (0, GREATEST), (GREATEST, GREATEST), (8, 0), (0, 9)]:
            self.refused([begin(8, 8)] + layers(2), matters(x, y), -1)
        self.refused([], matters(1, 0), -1)
        self.refused([], matters(0, 1), -1)
