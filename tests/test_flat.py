from helper import (CallCase, all_dots, all_rows, begin, dot, drop, firsts, flat, group, how, last, layer, layers, lift,
                    list_all, order, paint, shift, state)

PAIR = [layer(pixels=(204, 153)), layer(pixels=(85, 85))]
SQUARE = [begin(2, 2), layer(32, 32, 2, 2, [10, 20, 30, 40, 50, 60, 70, 80]), layer(33, 33, 1, 1, [200, 100])]


class Flat(CallCase):

    def test_its_number(self):
        self.taken([], flat(), 0)
        self.taken(PAIR, flat(), 2)
        self.taken(layers(10), flat(), 10)
        self.taken(PAIR + [group(0, 1)], flat(), 3)

    def test_instead_of_all_things(self):
        self.assertEqual(order(PAIR + [group(0, 1), flat()]), [3])
        self.looked(PAIR + [group(0, 1), flat()], list_all(), [1, 3])
        for thing in range(3):
            self.refused(PAIR + [group(0, 1), flat()], how(thing), -2)

    def test_a_plain_layer_of_the_size_of_the_picture(self):
        # 11/15 are 187 of 255; 97/165 are 149 and a rest of 10/11 of 255.
        self.assertEqual(state(PAIR + [flat()]), (1, 1, 3, [(2, 1, 255, 0, 0, 0, 0, 1, 1, [150, 187])]))
        pixels = [1, 2, 3, 4, 5, 6, 7, 8, 9, 10, 11, 12]
        self.assertEqual(state([begin(3, 2), layer(32, 32, 3, 2, pixels), how(0, way=3), flat()]),
                         (3, 2, 2, [(1, 1, 255, 0, 0, 0, 0, 3, 2, pixels)]))

    def test_what_is_beyond_the_picture_is_gone(self):
        rows = [begin(2, 1), layer(31, 32, 4, 1, [1, 1, 2, 2, 3, 3, 4, 4]), flat()]
        self.assertEqual(state(rows), (2, 1, 2, [(1, 1, 255, 0, 0, 0, 0, 2, 1, [2, 2, 3, 3])]))
        self.looked(rows + [shift(1, 33, 32)], dot(0, 0), [0, 0, 1, 0, 1])

    def test_rows_are_what_they_were(self):
        for rows in (PAIR, SQUARE, [begin(3, 3)], [begin(8, 8), layer(32, 32, 8, 8, list(range(128)))],
                     SQUARE + [how(0, strong=3), how(1, way=5, strong=128)], layers(10)):
            self.assertEqual(all_rows(rows + [flat()]), all_rows(rows))
            self.assertEqual(all_rows(rows + [flat(), flat()]), all_rows(rows))

    def test_a_half_is_rounded_up(self):
        rows = [layer(pixels=(10, 170)), layer(pixels=(11, 102)), flat()]
        self.assertEqual(state(rows)[3][0][9], [11, 204])

    def test_colour_and_cover_both_0_where_the_rounded_cover_is_0(self):
        rows = [layer(pixels=(200, 1)), how(0, strong=127)]
        self.looked(rows, dot(), [0, 127, 65025, 40, 51])
        self.assertEqual(state(rows + [flat()])[3][0][9], [0, 0])
        self.looked(rows + [flat()], dot(), [0, 0, 1, 0, 1])
        self.assertEqual(state([layer(pixels=(200, 1)), how(0, strong=128), flat()])[3][0][9], [200, 1])

    def test_what_is_shown_is_kept_rounded(self):
        self.looked(PAIR, dot(), [0, 11, 15, 97, 165])
        self.looked(PAIR + [flat()], dot(), [0, 11, 15, 10, 17])

    def test_no_things_at_all(self):
        rows = [begin(2, 1), flat()]
        self.assertEqual(state(rows), (2, 1, 1, [(0, 1, 255, 0, 0, 0, 0, 2, 1, [0, 0, 0, 0])]))
        self.assertEqual(all_dots(rows), [[0, 0, 1, 0, 1]] * 2)
        self.looked(layers(1) + [group(0, 1), drop(0), flat()], list_all(), [1, 2])

    def test_numbers_are_not_given_again_until_begin(self):
        rows = layers(2) + [flat(), layer(), flat(), flat(), group(5, 1), begin(1, 1), flat(), layer()]
        self.assertEqual(firsts(rows), [0, 1, 2, 3, 4, 5, 6, 0, 0, 1])

    def test_flat_makes_room(self):
        rows = layers(9) + [group(0, 5)]
        self.refused(rows, layer(), -5)
        self.assertEqual(firsts(rows + [flat()] + layers(10))[-11:], [10] + list(range(11, 20)) + [-5])

    def test_it_is_a_layer_as_any_other(self):
        rows = SQUARE + [flat()]
        for call in (how(2, 0, 1, 2, 1), shift(2, 0, 64), paint(2, 1, 1, 5, 6), lift(2, 0), drop(2)):
            self.taken(rows, call)
        self.refused(rows, paint(2, 2, 1, 5, 6), -1)
        self.assertEqual(last(rows + [paint(2, 1, 0, 51, 255), dot(1, 0)]), [0, 1, 1, 1, 5])
