from helper import (GREATEST, CallCase, begin, firsts, group, how, layer, layers, open_group, paint, picture_after,
                    shift, state)


class Begin(CallCase):

    def test_at_its_beginning_one_pixel_and_no_things(self):
        self.assertEqual(state([]), (1, 1, 0, []))

    def test_any_call_may_be_first(self):
        self.assertEqual(firsts([layer()]), [0])
        self.assertEqual(firsts([group(0, 1)]), [-2])
        self.assertEqual(firsts([open_group(0)]), [-2])
        self.assertEqual(firsts([how(0)]), [-2])
        self.assertEqual(firsts([shift(0, 0, 0)]), [-2])
        self.assertEqual(firsts([paint(0, 0, 0, 0, 0)]), [-2])

    def test_sides(self):
        for w, h in [(1, 1), (8, 8), (1, 8), (8, 1), (3, 5)]:
            self.taken([], begin(w, h))
            picture = picture_after([begin(w, h)])
            self.assertEqual((picture.width, picture.height), (w, h))

    def test_sides_that_cannot_be(self):
        rows = [begin(3, 2)] + layers(2)
        for side in (0, 9, 255, GREATEST):
            self.refused(rows, begin(side, 4), -1)
            self.refused(rows, begin(4, side), -1)
            self.refused(rows, begin(side, side), -1)

    def test_begin_again_leaves_no_things(self):
        rows = [begin(2, 2)] + layers(3) + [group(0, 2), begin(4, 5)]
        self.assertEqual(state(rows), (4, 5, 0, []))
        for thing in range(4):
            self.refused(rows, how(thing), -2)

    def test_begin_again_and_numbers_begin_with_0(self):
        rows = layers(2) + [group(0, 1), begin(1, 1)] + layers(2) + [group(0, 2), begin(1, 1)] + layers(1)
        self.assertEqual(firsts(rows), [0, 1, 2, 0, 0, 1, 2, 0, 0])

    def test_begin_that_is_refused_leaves_the_numbers(self):
        self.assertEqual(firsts(layers(2) + [begin(0, 1)] + layers(1)), [0, 1, -1, 2])

    def test_ten_things_again_behind_begin(self):
        rows = layers(11) + [begin(1, 1)] + layers(11)
        self.assertEqual(firsts(rows), list(range(10)) + [-5, 0] + list(range(10)) + [-5])
