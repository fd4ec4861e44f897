from helper import GREATEST, CallCase, begin, group, how, layer, layers, open_group, paint, picture_after, shift, state


def place(rows):
    thing = picture_after(rows).things[0]
    return (thing.x, thing.y)


class Shift(CallCase):

    def test_where_it_lies(self):
        rows = [layer(1, 2), layer(3, 4)]
        for x, y in [(0, 0), (64, 64), (0, 64), (64, 0), (32, 32), (31, 33)]:
            self.taken(rows, shift(0, x, y))
            self.assertEqual(place(rows + [shift(0, x, y)]), (x - 32, y - 32))
        self.assertEqual(state(rows + [shift(0, 40, 50)]),
                         (1, 1, 2, [(0, 1, 255, 0, 0, 8, 18, 1, 1, [10, 20]),
                                    (1, 1, 255, 0, 0, -29, -28, 1, 1, [10, 20])]))

    def test_not_by_how_much_but_where(self):
        self.assertEqual(place([layer(1, 2), shift(0, 34, 35), shift(0, 33, 34)]), (1, 2))

    def test_a_layer_in_a_group(self):
        rows = layers(1) + [group(0, 1), group(1, 1)]
        self.taken(rows, shift(0, 3, 4))
        self.assertEqual(place(rows + [shift(0, 3, 4), open_group(2), open_group(1)]), (-29, -28))

    def test_it_keeps_how_it_is_and_its_pixels(self):
        rows = layers(1) + [how(0, 0, 1, 2, 1), paint(0, 0, 0, 3, 4), shift(0, 5, 6)]
        self.assertEqual(state(rows)[3], [(0, 0, 1, 2, 1, -27, -26, 1, 1, [3, 4])])

    def test_above_64(self):
        rows = [layer(1, 2)]
        for far in (65, 97, GREATEST):
            self.refused(rows, shift(0, far, 5), -1)
            self.refused(rows, shift(0, 5, far), -1)
            self.refused(rows, shift(0, far, far), -1)

    def test_no_such_thing(self):
        self.refused([], shift(0, 32, 32), -2)
        self.refused(layers(2), shift(2, 5, 6), -2)
        self.refused(layers(2), shift(GREATEST, 5, 6), -2)
        self.refused(layers(1) + [begin(1, 1)], shift(0, 5, 6), -2)

    def test_it_is_a_group(self):
        rows = layers(1) + [group(0, 1), group(1, 1)]
        self.refused(rows, shift(1, 5, 6), -3)
        self.refused(rows, shift(2, 5, 6), -3)

    def test_the_refusal_told_first(self):
        self.refused([], shift(0, 65, 0), -1)
        self.refused(layers(1), shift(1, 0, 65), -1)
        rows = layers(1) + [group(0, 1)]
        self.refused(rows, shift(1, 65, 0), -1)
        self.refused(rows, shift(1, 0, 65), -1)
        self.refused(rows, shift(2, 0, 0), -2)
