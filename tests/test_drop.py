from helper import (GREATEST, CallCase, begin, dot, drop, firsts, group, how, layer, layers, lift, list_all, open_group,
                    order, paint, shift, state)

# [0, (7, [(6, [1, 2]), 3]), 4, 5]
NESTED = layers(6) + [group(1, 2), group(6, 2)]


class Drop(CallCase):

    def test_how_many_things_there_are_then(self):
        self.taken(layers(1), drop(0), 0)
        self.taken(layers(4), drop(2), 3)
        self.taken(layers(10), drop(9), 9)

    def test_the_others_stand_as_they_did(self):
        self.assertEqual(order(layers(4) + [drop(0)]), [1, 2, 3])
        self.assertEqual(order(layers(4) + [drop(2)]), [0, 1, 3])
        self.assertEqual(order(layers(4) + [drop(3)]), [0, 1, 2])

    def test_the_others_stay_as_they_are(self):
        rows = [layer(0, 64), how(0, 0, 1, 2, 1), layer(), group(0, 1), how(2, 0, 3, 4, 1), drop(1)]
        self.assertEqual(state(rows), (1, 1, 3, [(2, 0, 3, 4, 1, [(0, 0, 1, 2, 1, -32, 32, 1, 1, [10, 20])])]))

    def test_things_in_groups_and_groups_are_counted(self):
        self.assertEqual(order(NESTED), [0, (7, [(6, [1, 2]), 3]), 4, 5])
        self.taken(NESTED, drop(0), 7)
        self.taken(NESTED, drop(5), 7)

    def test_in_a_group(self):
        self.taken(NESTED, drop(3), 7)
        self.assertEqual(order(NESTED + [drop(3)]), [0, (7, [(6, [1, 2])]), 4, 5])

    def test_in_a_group_of_a_group(self):
        self.taken(NESTED, drop(1), 7)
        self.assertEqual(order(NESTED + [drop(1)]), [0, (7, [(6, [2]), 3]), 4, 5])
        self.taken(NESTED, drop(2), 7)
        self.assertEqual(order(NESTED + [drop(2)]), [0, (7, [(6, [1]), 3]), 4, 5])

    def test_a_group_with_what_is_in_it(self):
        self.taken(NESTED, drop(6), 5)
        self.assertEqual(order(NESTED + [drop(6)]), [0, (7, [3]), 4, 5])
        self.taken(NESTED, drop(7), 3)
        self.assertEqual(order(NESTED + [drop(7)]), [0, 4, 5])
        for thing in (1, 2, 3, 6, 7):
            self.refused(NESTED + [drop(7)], drop(thing), -2)

    def test_a_group_is_left_without_things(self):
        rows = NESTED + [drop(1), drop(2)]
        self.assertEqual(order(rows), [0, (7, [(6, []), 3]), 4, 5])
        self.taken(rows, open_group(6), 0)
        self.assertEqual(order(rows + [open_group(6)]), [0, (7, [3]), 4, 5])
        self.taken(rows, drop(6), 5)
        self.looked(rows, list_all(), [4, 0, 7, 6, 3, 4, 5])

    def test_it_is_gone(self):
        rows = layers(2) + [drop(1)]
        for call in (drop(1), how(1), shift(1, 32, 32), paint(1, 0, 0, 1, 2), group(1, 1), open_group(1), lift(1, 0)):
            self.refused(rows, call, -2)
        self.looked(rows, list_all(), [1, 0])

    def test_it_is_not_seen_any_more(self):
        rows = [layer(pixels=(51, 255)), layer(pixels=(85, 255))]
        self.looked(rows, dot(), [0, 1, 1, 1, 3])
        self.looked(rows + [drop(1)], dot(), [0, 1, 1, 1, 5])
        self.looked(rows + [drop(1), drop(0)], dot(), [0, 0, 1, 0, 1])

    def test_its_number_is_not_given_again_until_begin(self):
        rows = layers(3) + [drop(2), layer(), drop(3), drop(0), drop(1), layer(), group(4, 1), drop(5), layer(),
                            begin(1, 1), layer()]
        self.assertEqual(firsts(rows), [0, 1, 2, 2, 3, 2, 1, 0, 4, 5, 0, 6, 0, 0])

    def test_drop_makes_room(self):
        self.refused(layers(10), layer(), -5)
        self.taken(layers(10) + [drop(4)], layer(), 10)
        self.refused(layers(10) + [drop(4), layer()], layer(), -5)
        rows = layers(9) + [group(0, 9), drop(9)]
        self.assertEqual(firsts(rows + layers(11))[-12:], [0] + list(range(10, 20)) + [-5])

    def test_no_such_thing(self):
        self.refused([], drop(0), -2)
        self.refused([], drop(GREATEST), -2)
        self.refused(NESTED, drop(8), -2)
        self.refused(NESTED, drop(GREATEST), -2)
        self.refused(NESTED + [open_group(7)], drop(7), -2)
        self.refused(NESTED + [begin(2, 2)], drop(0), -2)

    def test_a_refusal_takes_no_number(self):
        self.assertEqual(firsts(layers(2) + [drop(2), layer()]), [0, 1, -2, 2])
