from helper import GREATEST, CallCase, begin, group, layer, layers, open_group, paint, picture_after, shift

SIX = [layer(32, 32, 3, 2, [10, 11, 20, 21, 30, 31, 40, 41, 50, 51, 60, 61])]


def pixels(rows, place=0):
    return picture_after(rows).things[place].pixels


class Paint(CallCase):

    def test_its_own_pixel_and_no_other(self):
        for x in range(3):
            for y in range(2):
                awaited = list(SIX[0][6:])
                awaited[2 * (3 * y + x):2 * (3 * y + x) + 2] = [1, 2]
                self.taken(SIX, paint(0, x, y, 1, 2))
                self.assertEqual(pixels(SIX + [paint(0, x, y, 1, 2)]), awaited)

    def test_written_out(self):
        self.assertEqual(pixels(SIX + [paint(0, 2, 1, 7, 8)]), [10, 11, 20, 21, 30, 31, 40, 41, 50, 51, 7, 8])
        self.assertEqual(pixels(SIX + [paint(0, 0, 1, 7, 8)]), [10, 11, 20, 21, 30, 31, 7, 8, 50, 51, 60, 61])

    def test_no_other_layer(self):
        rows = SIX + SIX + [paint(1, 0, 0, 1, 2)]
        self.assertEqual(pixels(rows), SIX[0][6:])
        self.assertEqual(pixels(rows, 1), [1, 2] + SIX[0][8:])

    def test_wherever_the_layer_lies(self):
        rows = SIX + [begin(1, 1), layer(0, 64, 2, 1, [1, 2, 3, 4]), shift(0, 64, 0)]
        self.taken(rows, paint(0, 1, 0, 8, 9))
        self.assertEqual(pixels(rows + [paint(0, 1, 0, 8, 9)]), [1, 2, 8, 9])

    def test_a_layer_in_a_group(self):
        rows = SIX + [group(0, 1), group(1, 1)]
        self.taken(rows, paint(0, 0, 0, 1, 2))
        self.assertEqual(pixels(rows + [paint(0, 0, 0, 1, 2), open_group(2), open_group(1)]), [1, 2] + SIX[0][8:])

    def test_colour_and_cover_at_their_edges(self):
        for colour, cover in [(0, 0), (255, 255), (0, 255), (255, 0)]:
            self.taken(layers(1), paint(0, 0, 0, colour, cover))
            self.assertEqual(pixels(layers(1) + [paint(0, 0, 0, colour, cover)]), [colour, cover])

    def test_colour_or_cover_above_255(self):
        for above in (256, GREATEST):
            self.refused(SIX, paint(0, 0, 0, above, 5), -1)
            self.refused(SIX, paint(0, 0, 0, 5, above), -1)
            self.refused(SIX, paint(0, 0, 0, above, above), -1)

    def test_no_such_thing(self):
        self.refused([], paint(0, 0, 0, 1, 2), -2)
        self.refused(SIX, paint(1, 0, 0, 1, 2), -2)
        self.refused(SIX, paint(GREATEST, 0, 0, 1, 2), -2)
        self.refused(SIX + [begin(1, 1)], paint(0, 0, 0, 1, 2), -2)

    def test_it_is_a_group(self):
        self.refused(SIX + [group(0, 1)], paint(1, 0, 0, 1, 2), -3)

    def test_it_has_no_such_pixel(self):
        self.taken(SIX, paint(0, 2, 1, 1, 2))
        for x, y in [(3, 0), (0, 2), (3, 1), (2, 2), (3, 2), (GREATEST, 0), (0, GREATEST), (GREATEST, GREATEST)]:
            self.refused(SIX, paint(0, x, y, 1, 2), -1)

    def test_the_largest_layer(self):
        rows = [layer(32, 32, 8, 8, [3] * 128)]
        self.assertEqual(pixels(rows + [paint(0, 7, 7, 1, 2)]), [3] * 126 + [1, 2])
        self.refused(rows, paint(0, 8, 7, 1, 2), -1)
        self.refused(rows, paint(0, 7, 8, 1, 2), -1)

    def test_the_refusal_told_first(self):
        rows = SIX + [group(0, 1)]
        self.refused(rows, paint(2, 9, 9, 256, 0), -1)
        self.refused(rows, paint(2, 9, 9, 0, 256), -1)
        self.refused(rows, paint(1, 0, 0, 256, 0), -1)
        self.refused(rows, paint(1, 0, 0, 0, 256), -1)
        self.refused(rows, paint(2, 9, 9, 0, 0), -2)
        self.refused(rows, paint(1, 9, 9, 0, 0), -3)
        self.refused(rows, paint(1, GREATEST, 0, 0, 0), -3)
        self.refused(rows, paint(0, 9, 9, 0, 0), -1)
