from helper import GREATEST, CallCase, begin, group, how, layers, open_group, state


def kept(rows, place=0):
    return state(rows)[3][place][1:5]


class How(CallCase):

    def test_each_is_kept_in_its_place(self):
        rows = layers(2)
        self.taken(rows, how(0, 0, 17, 5, 1))
        self.assertEqual(kept(rows + [how(0, 0, 17, 5, 1)]), (0, 17, 5, 1))
        self.assertEqual(kept(rows + [how(0, 1, 0, 0, 0)]), (1, 0, 0, 0))
        self.assertEqual(kept(rows + [how(0, 0, 1, 0, 0)]), (0, 1, 0, 0))
        self.assertEqual(kept(rows + [how(0, 0, 17, 5, 1)], 1), (1, 255, 0, 0))

    def test_what_is_said_last_holds(self):
        rows = layers(1) + [how(0, 0, 17, 5, 1), how(0, 1, 18, 6, 0)]
        self.assertEqual(kept(rows), (1, 18, 6, 0))

    def test_a_group(self):
        rows = layers(1) + [group(0, 1), how(1, 0, 2, 3, 1)]
        self.assertEqual(state(rows)[3], [(1, 0, 2, 3, 1, [(0, 1, 255, 0, 0, 0, 0, 1, 1, [10, 20])])])

    def test_what_is_in_a_group(self):
        rows = layers(1) + [group(0, 1), group(1, 1), how(0, 0, 2, 3, 1), how(1, 0, 4, 5, 0)]
        self.taken(rows[:-2], how(0, 0, 2, 3, 1))
        self.assertEqual(state(rows)[3], [(2, 1, 255, 0, 0, [(1, 0, 4, 5, 0, [
            (0, 0, 2, 3, 1, 0, 0, 1, 1, [10, 20])])])])

    def test_at_their_greatest(self):
        self.taken(layers(1), how(0, 1, 255, 6, 1))
        self.assertEqual(kept(layers(1) + [how(0, 1, 255, 6, 1)]), (1, 255, 6, 1))
        for way in range(7):
            self.assertEqual(kept(layers(1) + [how(0, 1, 9, way, 0)]), (1, 9, way, 0))

    def test_one_of_them_cannot_be(self):
        rows = layers(2) + [group(0, 1), how(0, 0, 3, 2, 1)]
        for thing in range(3):
            for seen in (2, 255, GREATEST):
                self.refused(rows, how(thing, seen=seen), -1)
            for strong in (256, GREATEST):
                self.refused(rows, how(thing, strong=strong), -1)
            for way in (7, 255, GREATEST):
                self.refused(rows, how(thing, way=way), -1)
            for clipped in (2, 255, GREATEST):
                self.refused(rows, how(thing, clipped=clipped), -1)

    def test_no_such_thing(self):
        self.refused([], how(0), -2)
        self.refused(layers(2), how(2, 0, 1, 1, 1), -2)
        self.refused(layers(2), how(GREATEST, 0, 1, 1, 1), -2)
        self.refused(layers(1) + [group(0, 1), open_group(1)], how(1, 0, 1, 1, 1), -2)
        self.refused(layers(1) + [begin(1, 1)], how(0), -2)

    def test_the_refusal_told_first(self):
        self.refused([], how(0, seen=2), -1)
        self.refused([], how(0, strong=256), -1)
        self.refused([], how(0, way=7), -1)
        self.refused(layers(1), how(1, clipped=2), -1)
