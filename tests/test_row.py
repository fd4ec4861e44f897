from helper import GREATEST, CallCase, all_rows, begin, drop, group, how, last, layer, layers, row, shift

# 2/5 over 2/3: of the 4/5 that they cover, each has a half, so that the colour is halfway between theirs. (How much
# is covered is never at a half itself: it's a whole number divided by 255 some times.)
def halfway(below, above):
    return [layer(pixels=(below, 170)), layer(pixels=(above, 102))]


class Row(CallCase):

    def test_how_many_pixels_then_colour_and_cover_of_each(self):
        rows = [begin(3, 2), layer(32, 32, 3, 2, [1, 2, 3, 4, 5, 6, 7, 8, 9, 10, 11, 12])]
        self.looked(rows, row(0), [3, 1, 2, 3, 4, 5, 6])
        self.looked(rows, row(1), [3, 7, 8, 9, 10, 11, 12])

    def test_no_things_at_all(self):
        self.looked([], row(0), [1, 0, 0])
        self.looked([begin(8, 8)], row(7), [8] + [0] * 16)

    def test_what_is_not_covered_has_no_colour(self):
        self.looked([begin(2, 1), layer(pixels=(200, 0))], row(), [2, 0, 0, 0, 0])
        self.looked([begin(2, 1), layer(pixels=(200, 9)), shift(0, 33, 32)], row(), [2, 0, 0, 200, 9])
        self.looked([layer(pixels=(200, 9)), how(0, seen=0)], row(), [1, 0, 0])
        self.looked(layers(1) + [group(0, 1), drop(0)], row(), [1, 0, 0])

    def test_a_half_is_rounded_up(self):
        self.looked(halfway(10, 11), row(), [1, 11, 204])
        self.looked(halfway(11, 12), row(), [1, 12, 204])
        self.looked(halfway(0, 1), row(), [1, 1, 204])
        self.looked(halfway(255, 254), row(), [1, 255, 204])
        self.looked(halfway(10, 12), row(), [1, 11, 204])

    def test_less_and_more_than_a_half(self):
        # Wholly covered: 4/5 and 1/5 of the two colours, then 3/5 and 2/5, 2/5 and 3/5, 1/5 and 4/5.
        for cover, colour in [(51, 10), (102, 10), (153, 11), (204, 11)]:
            self.looked([layer(pixels=(10, 255)), layer(pixels=(11, cover))], row(), [1, colour, 255])

    def test_cover_to_the_nearest(self):
        # 100 times the strength, divided by 255: 39.2, 39.6, 40.
        for strong, cover in [(100, 39), (101, 40), (102, 40)]:
            self.looked([layer(pixels=(200, 100)), how(0, strong=strong)], row(), [1, 200, cover])

    def test_both_0_where_the_rounded_cover_is_0(self):
        # 127/255 is less than a half, 128/255 more.
        self.looked([layer(pixels=(200, 1)), how(0, strong=127)], row(), [1, 0, 0])
        self.looked([layer(pixels=(200, 1)), how(0, strong=128)], row(), [1, 200, 1])
        self.looked([layer(pixels=(200, 127)), how(0, strong=1)], row(), [1, 0, 0])
        self.looked([layer(pixels=(200, 128)), how(0, strong=1)], row(), [1, 200, 1])

    def test_rounded_once(self):
        # Each by itself would be shown as nothing; together they cover 2 * 100/255 of 1/255, less a little.
        rows = [layer(pixels=(200, 1)), how(0, strong=100), layer(pixels=(200, 1)), how(1, strong=100)]
        self.looked(rows, row(), [1, 200, 1])
        self.looked(rows + [drop(1)], row(), [1, 0, 0])

    def test_the_last_row_and_one_beyond(self):
        for w, h in [(1, 1), (3, 2), (8, 8), (1, 8), (8, 1)]:
            rows = [begin(w, h)] + layers(1)
            self.assertEqual(len(last(rows + [row(h - 1)])), 1 + 2 * w)
            self.refused(rows, row(h), -1)
            self.refused(rows, row(GREATEST), -1)

    def test_there_is_none(self):
        self.refused([], row(1), -1)
        self.refused([begin(8, 3)], row(3), -1)
        self.refused([begin(8, 3), begin(3, 2)], row(2), -1)

    def test_all_rows_of_the_largest_picture(self):
        pixels = list(range(128))
        rows = [begin(8, 8), layer(32, 32, 8, 8, pixels)]
        # The first pixel's colour is 0, of cover 1.
        self.assertEqual(all_rows(rows), [[8] + pixels[16 * y:16 * y + 16] for y in range(8)])
