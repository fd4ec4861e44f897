from helper import GREATEST, CallCase, begin, firsts, group, how, layer, layers, open_group, order, paint, shift, state


class Open(CallCase):

    def test_how_many_things_it_had(self):
        for n in range(1, 5):
            self.taken(layers(5) + [group(1, n)], open_group(5), n)

    def test_its_things_stand_where_it_was(self):
        rows = layers(5) + [group(1, 3)]
        self.assertEqual(order(rows + [open_group(5)]), [0, 1, 2, 3, 4])
        self.assertEqual(order(layers(4) + [group(0, 2), open_group(4)]), [0, 1, 2, 3])
        self.assertEqual(order(layers(4) + [group(2, 2), open_group(4)]), [0, 1, 2, 3])

    def test_what_is_asked_next_tells_where_they_stand(self):
        rows = layers(4) + [group(1, 2), open_group(4)]
        self.taken(rows, group(1, 3), 5)
        self.refused(rows, group(1, 4), -1)
        self.taken(rows, group(2, 2), 5)
        self.refused(rows, group(3, 2), -1)

    def test_it_is_gone(self):
        rows = layers(2) + [group(0, 2), open_group(2)]
        self.refused(rows, open_group(2), -2)
        self.refused(rows, how(2), -2)
        self.refused(rows, group(2, 1), -2)
        self.refused(rows, shift(2, 32, 32), -2)
        self.refused(rows, paint(2, 0, 0, 0, 0), -2)

    def test_its_number_is_not_given_again(self):
        rows = layers(1) + [group(0, 1), open_group(1), group(0, 1), open_group(2)] + layers(1)
        self.assertEqual(firsts(rows), [0, 1, 1, 2, 1, 3])

    def test_how_many_things_counts_groups_but_not_what_is_in_them(self):
        rows = layers(5) + [group(0, 3), group(5, 2)]
        self.taken(rows, open_group(6), 2)
        self.assertEqual(order(rows + [open_group(6)]), [(5, [0, 1, 2]), 3, 4])

    def test_a_group_in_a_group(self):
        rows = layers(5) + [group(1, 2), group(0, 3)]
        self.assertEqual(order(rows), [(6, [0, (5, [1, 2]), 3]), 4])
        self.taken(rows, open_group(5), 2)
        self.assertEqual(order(rows + [open_group(5)]), [(6, [0, 1, 2, 3]), 4])
        self.taken(rows + [open_group(5)], open_group(6), 4)
        self.assertEqual(order(rows + [open_group(5), open_group(6)]), [0, 1, 2, 3, 4])

    def test_deep_within(self):
        rows = layers(2) + [group(0, 1)] + [group(k, 1) for k in range(2, 8)]
        rows = rows + [group(8, 2)]
        self.assertEqual(order(rows), [(9, [(8, [(7, [(6, [(5, [(4, [(3, [(2, [0])])])])])])]), 1])])
        self.taken(rows, open_group(2), 1)
        self.taken(rows, open_group(5), 1)
        self.assertEqual(order(rows + [open_group(5)]), [(9, [(8, [(7, [(6, [(4, [(3, [(2, [0])])])])])]), 1])])

    def test_its_things_stay_as_they_are(self):
        rows = [layer(0, 64), how(0, 0, 1, 2, 1), layer(), group(0, 2), how(2, 0, 3, 4, 1), open_group(2)]
        self.assertEqual(state(rows), (1, 1, 3, [(0, 0, 1, 2, 1, -32, 32, 1, 1, [10, 20]),
                                                 (1, 1, 255, 0, 0, 0, 0, 1, 1, [10, 20])]))

    def test_open_makes_room(self):
        rows = layers(9) + [group(0, 9)]
        self.refused(rows, layer(), -5)
        self.taken(rows + [open_group(9)], layer(), 10)
        self.taken(rows + [open_group(9)], group(0, 9), 10)

    def test_no_such_thing(self):
        self.refused([], open_group(0), -2)
        self.refused(layers(2), open_group(2), -2)
        self.refused(layers(2) + [group(0, 1)], open_group(3), -2)
        self.refused(layers(2) + [group(0, 1)], open_group(GREATEST), -2)
        self.refused(layers(1) + [group(0, 1), begin(1, 1)], open_group(1), -2)

    def test_it_is_a_layer(self):
        rows = layers(2) + [group(0, 1)]
        self.refused(rows, open_group(0), -3)
        self.refused(rows, open_group(1), -3)
