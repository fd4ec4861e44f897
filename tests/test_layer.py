from helper import GREATEST, CallCase, begin, firsts, group, layer, layers, open_group, order, picture_after, state


class Layer(CallCase):

    def test_numbers_from_0_as_they_are_made(self):
        self.assertEqual(firsts(layers(4)), [0, 1, 2, 3])

    def test_how_it_is_at_first(self):
        pixels = [1, 2, 3, 4, 5, 6, 7, 8, 9, 10, 11, 12]
        self.assertEqual(state([layer(30, 37, 3, 2, pixels)]),
                         (1, 1, 1, [(0, 1, 255, 0, 0, -2, 5, 3, 2, pixels)]))

    def test_above_all_others(self):
        self.assertEqual(order(layers(3)), [0, 1, 2])
        self.assertEqual(order(layers(2) + [group(0, 2)] + layers(1)), [(2, [0, 1]), 3])

    def test_where_it_lies_is_told_32_more(self):
        for x, y in [(0, 0), (64, 64), (0, 64), (64, 0), (32, 32), (1, 63)]:
            self.taken([], layer(x, y))
            made = picture_after([layer(x, y)]).things[0]
            self.assertEqual((made.x, made.y), (x - 32, y - 32))

    def test_too_far_away(self):
        rows = [begin(2, 2)] + layers(1)
        for far in (65, 97, 255, GREATEST):
            self.refused(rows, layer(far, 32), -1)
            self.refused(rows, layer(32, far), -1)
            self.refused(rows, layer(far, far), -1)

    def test_sides(self):
        for w, h in [(1, 1), (8, 8), (1, 8), (8, 1), (3, 5)]:
            pixels = list(range(2 * w * h))
            self.taken([], layer(32, 32, w, h, pixels))
            made = picture_after([layer(32, 32, w, h, pixels)]).things[0]
            self.assertEqual((made.width, made.height, made.pixels), (w, h, pixels))

    def test_a_layer_may_be_larger_than_the_picture(self):
        self.taken([begin(1, 1)], layer(0, 0, 8, 8, [7] * 128), 0)

    def test_sides_that_cannot_be(self):
        rows = [begin(2, 2)] + layers(1)
        for side in (0, 9, 255, GREATEST):
            self.refused(rows, layer(32, 32, side, 1), -1)
            self.refused(rows, layer(32, 32, 1, side), -1)
            self.refused(rows, layer(32, 32, side, side, []), -1)
        self.refused(rows, layer(32, 32, 9, 8, [0] * 144), -1)
        self.refused(rows, layer(32, 32, 0, 5, []), -1)

    def test_not_as_many_pixels(self):
        rows = [begin(2, 2)] + layers(1)
        for count in (0, 1, 6, 11, 13, 14, 24, 200):
            self.refused(rows, layer(32, 32, 2, 3, [9] * count), -3)
        self.refused(rows, layer(32, 32, 1, 1, []), -3)
        self.refused(rows, layer(32, 32, 1, 1, [5]), -3)
        self.refused(rows, layer(32, 32, 8, 8, [9] * 127), -3)
        self.refused(rows, layer(32, 32, 8, 8, [9] * 129), -3)

    def test_colour_and_cover_at_their_greatest(self):
        self.taken([], layer(32, 32, 1, 2, [255, 255, 0, 0]), 0)

    def test_colour_or_cover_above_255(self):
        for above in (256, GREATEST):
            for place in range(8):
                pixels = [255] * 8
                pixels[place] = above
                self.refused(layers(1), layer(32, 32, 2, 2, pixels), -3)

    def test_ten_things(self):
        self.assertEqual(firsts(layers(12)), [0, 1, 2, 3, 4, 5, 6, 7, 8, 9, -5, -5])
        self.refused(layers(10), layer(), -5)

    def test_ten_things_those_in_groups_and_the_groups_too(self):
        self.taken(layers(7) + [group(0, 3), group(4, 2)], layer(), 9)
        self.refused(layers(8) + [group(0, 3), group(4, 2)], layer(), -5)
        self.refused(layers(8) + [group(0, 8), group(8, 1)], layer(), -5)

    def test_a_group_that_is_gone_does_not_count_but_its_number_is_not_given_again(self):
        rows = layers(9) + [group(0, 9), open_group(9)]
        self.taken(rows, layer(), 10)
        self.refused(rows + [layer()], layer(), -5)

    def test_the_refusal_told_first(self):
        full = layers(10)
        self.refused(full, layer(65, 32, 1, 1, [0]), -1)
        self.refused(full, layer(32, 65, 1, 1, [256, 0]), -1)
        self.refused(full, layer(32, 32, 0, 1, []), -1)
        self.refused(full, layer(32, 32, 1, 9, [256]), -1)
        self.refused(full, layer(32, 32, 1, 1, [0]), -3)
        self.refused(full, layer(32, 32, 1, 1, [0, 256]), -3)
        self.refused([], layer(65, 32, 1, 1, [0]), -1)

    def test_a_refusal_takes_no_number(self):
        rows = [layer(65, 0), layer(), layer(32, 32, 1, 1, [1]), layer()]
        self.assertEqual(firsts(rows), [-1, 0, -3, 1])
