from helper import GREATEST, CallCase, begin, firsts, group, how, layer, layers, open_group, order, state


class Group(CallCase):

    def test_its_number_and_where_it_stands(self):
        rows = layers(4) + [group(1, 2)]
        self.assertEqual(firsts(rows), [0, 1, 2, 3, 4])
        self.assertEqual(order(rows), [0, (4, [1, 2]), 3])

    def test_below_and_above(self):
        self.assertEqual(order(layers(4) + [group(0, 2)]), [(4, [0, 1]), 2, 3])
        self.assertEqual(order(layers(4) + [group(2, 2)]), [0, 1, (4, [2, 3])])

    def test_one_and_all(self):
        self.assertEqual(order(layers(3) + [group(1, 1)]), [0, (3, [1]), 2])
        self.assertEqual(order(layers(3) + [group(0, 3)]), [(3, [0, 1, 2])])

    def test_what_is_asked_next_tells_where_it_stands(self):
        rows = layers(4) + [group(1, 2)]
        self.taken(rows, group(4, 2), 5)
        self.refused(rows, group(4, 3), -1)
        self.taken(rows, group(0, 3), 5)
        self.refused(rows, group(0, 4), -1)
        self.refused(rows, group(3, 2), -1)

    def test_how_it_is_at_first_and_its_things_stay_as_they_are(self):
        rows = [layer(33, 34), how(0, 0, 7, 6, 1)]
        self.assertEqual(state(rows + [group(0, 1)]),
                         (1, 1, 2, [(1, 1, 255, 0, 0, [(0, 0, 7, 6, 1, 1, 2, 1, 1, [10, 20])])]))

    def test_groups_in_groups(self):
        rows = layers(3) + [group(0, 2), group(3, 2), group(4, 1)]
        self.assertEqual(firsts(rows), [0, 1, 2, 3, 4, 5])
        self.assertEqual(order(rows), [(5, [(4, [(3, [0, 1]), 2])])])

    def test_one_layer_in_nine_groups(self):
        rows = layers(1) + [group(k, 1) for k in range(9)]
        self.assertEqual(firsts(rows), list(range(10)))
        self.refused(rows, group(9, 1), -5)
        self.refused(rows, group(0, 1), -2)

    def test_order_of_numbers_is_not_order_of_things(self):
        rows = layers(3) + [group(0, 1), group(3, 2)]
        self.assertEqual(order(rows), [(4, [(3, [0]), 1]), 2])
        self.taken(rows, group(4, 2), 5)

    def test_n_is_0(self):
        self.refused(layers(3), group(1, 0), -1)

    def test_no_such_thing(self):
        self.refused([], group(0, 1), -2)
        self.refused(layers(3), group(3, 1), -2)
        self.refused(layers(3), group(GREATEST, 1), -2)
        self.refused(layers(1) + [begin(1, 1)], group(0, 1), -2)
        self.refused(layers(1) + [group(0, 1), open_group(1)], group(1, 1), -2)

    def test_it_is_in_a_group(self):
        rows = layers(3) + [group(0, 2), group(3, 1)]
        for thing in (0, 1, 3):
            self.refused(rows, group(thing, 1), -2)
        self.taken(rows, group(4, 1), 5)

    def test_as_many_as_there_are_and_one_more(self):
        for thing in range(4):
            self.taken(layers(4), group(thing, 4 - thing), 4)
            self.refused(layers(4), group(thing, 5 - thing), -1)
        self.refused(layers(4), group(0, GREATEST), -1)
        self.refused(layers(4), group(3, GREATEST), -1)

    def test_things_in_groups_do_not_count_for_n(self):
        rows = layers(4) + [group(0, 3)]
        self.taken(rows, group(4, 2), 5)
        self.refused(rows, group(4, 3), -1)

    def test_ten_things(self):
        self.taken(layers(9), group(0, 9), 9)
        self.refused(layers(10), group(0, 10), -5)
        self.refused(layers(9) + [group(0, 9)], group(9, 1), -5)
        self.refused(layers(8) + [group(2, 3), group(8, 1)], group(0, 1), -5)

    def test_the_refusal_told_first(self):
        self.refused([], group(0, 0), -1)
        self.refused(layers(10), group(10, 0), -1)
        self.refused(layers(10), group(0, 0), -1)
        self.refused(layers(10), group(10, 11), -2)
        self.refused(layers(10), group(10, 1), -2)
        self.refused(layers(10), group(0, 11), -1)
        self.refused(layers(10), group(9, 2), -1)
        in_group = layers(9) + [group(0, 2)]
        self.refused(in_group, group(0, 0), -1)
        self.refused(in_group, group(1, GREATEST), -2)
        self.refused(in_group, group(1, 1), -2)

    def test_a_refusal_takes_no_number(self):
        rows = layers(2) + [group(0, 0), group(5, 1), group(0, 3), group(0, 2)]
        self.assertEqual(firsts(rows), [0, 1, -1, -2, -1, 2])
