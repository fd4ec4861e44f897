from helper import (GREATEST, CallCase, begin, dot, drop, firsts, group, how, layer, layers, lift, list_all, open_group,
                    order, state)

# [0, (7, [(6, [1, 2]), 3]), 4, 5]
NESTED = layers(6) + [group(1, 2), group(6, 2)]


class Lift(CallCase):

    def test_p_of_them_are_below_it(self):
        awaited = [[1, 0, 2, 3], [0, 1, 2, 3], [0, 2, 1, 3], [0, 2, 3, 1]]
        for p in range(4):
            self.taken(layers(4), lift(1, p))
            self.assertEqual(order(layers(4) + [lift(1, p)]), awaited[p])

    def test_from_below_and_from_above(self):
        self.assertEqual(order(layers(4) + [lift(0, 3)]), [1, 2, 3, 0])
        self.assertEqual(order(layers(4) + [lift(0, 1)]), [1, 0, 2, 3])
        self.assertEqual(order(layers(4) + [lift(3, 0)]), [3, 0, 1, 2])
        self.assertEqual(order(layers(4) + [lift(3, 2)]), [0, 1, 3, 2])

    def test_to_where_it_is(self):
        for thing in range(4):
            self.taken(layers(4), lift(thing, thing))
            self.assertEqual(state(layers(4) + [lift(thing, thing)]), state(layers(4)))

    def test_the_only_one(self):
        self.taken(layers(1), lift(0, 0))
        self.refused(layers(1), lift(0, 1), -1)

    def test_from_a_group(self):
        self.assertEqual(order(NESTED + [lift(3, 0)]), [3, 0, (7, [(6, [1, 2])]), 4, 5])
        self.assertEqual(order(NESTED + [lift(3, 2)]), [0, (7, [(6, [1, 2])]), 3, 4, 5])
        self.taken(NESTED, lift(3, 4))
        self.assertEqual(order(NESTED + [lift(3, 4)]), [0, (7, [(6, [1, 2])]), 4, 5, 3])

    def test_from_a_group_of_a_group(self):
        self.taken(NESTED, lift(1, 1))
        self.assertEqual(order(NESTED + [lift(1, 1)]), [0, 1, (7, [(6, [2]), 3]), 4, 5])
        self.assertEqual(order(NESTED + [lift(2, 4)]), [0, (7, [(6, [1]), 3]), 4, 5, 2])

    def test_a_group_with_what_is_in_it(self):
        self.taken(NESTED, lift(6, 1))
        self.assertEqual(order(NESTED + [lift(6, 1)]), [0, (6, [1, 2]), (7, [3]), 4, 5])
        self.taken(NESTED, lift(7, 3))
        self.assertEqual(order(NESTED + [lift(7, 3)]), [0, 4, 5, (7, [(6, [1, 2]), 3])])
        self.assertEqual(order(NESTED + [lift(7, 0)]), [(7, [(6, [1, 2]), 3]), 0, 4, 5])

    def test_a_group_is_left_without_things(self):
        rows = NESTED + [lift(6, 4), lift(3, 0)]
        self.assertEqual(order(rows), [3, 0, (7, []), 4, 5, (6, [1, 2])])
        self.looked(rows, list_all(), [6, 3, 0, 7, 4, 5, 6, 1, 2])
        self.taken(rows, open_group(7), 0)
        self.taken(rows, drop(7), 7)
        self.taken(rows, lift(7, 5))
        self.assertEqual(order(rows + [lift(7, 5)]), [3, 0, 4, 5, (6, [1, 2]), (7, [])])

    def test_what_is_lifted_stays_as_it_is(self):
        rows = [layer(0, 64), layer(), how(0, 0, 1, 2, 1), group(0, 2), how(2, 0, 3, 4, 1), lift(0, 1)]
        self.assertEqual(state(rows), (1, 1, 3, [(2, 0, 3, 4, 1, [(1, 1, 255, 0, 0, 0, 0, 1, 1, [10, 20])]),
                                                 (0, 0, 1, 2, 1, -32, 32, 1, 1, [10, 20])]))

    def test_what_is_seen_then(self):
        rows = [layer(pixels=(51, 255)), layer(pixels=(85, 255))]
        self.looked(rows, dot(), [0, 1, 1, 1, 3])
        self.looked(rows + [lift(0, 1)], dot(), [0, 1, 1, 1, 5])

    def test_out_of_a_group_it_is_as_strong_as_itself(self):
        rows = [layer(pixels=(51, 255)), group(0, 1), how(1, strong=85)]
        self.looked(rows, dot(), [0, 1, 3, 1, 5])
        self.looked(rows + [lift(0, 0)], dot(), [0, 1, 1, 1, 5])

    def test_it_takes_no_number(self):
        self.assertEqual(firsts(NESTED + [lift(1, 0), layer(), lift(0, 9), layer()])[-4:], [0, 8, -1, 9])

    def test_it_takes_no_room(self):
        rows = layers(8) + [group(0, 2), group(2, 2)]
        self.taken(rows, lift(0, 6))
        self.refused(rows + [lift(0, 6)], layer(), -5)

    def test_no_such_thing(self):
        self.refused([], lift(0, 0), -2)
        self.refused(NESTED, lift(8, 0), -2)
        self.refused(NESTED, lift(GREATEST, 0), -2)
        self.refused(NESTED + [open_group(6)], lift(6, 0), -2)
        self.refused(NESTED + [drop(6)], lift(1, 0), -2)
        self.refused(NESTED + [begin(1, 1)], lift(0, 0), -2)

    def test_there_are_fewer_than_p(self):
        # What is in no group already is taken from there first, so that one fewer is left.
        for thing in (0, 7, 4, 5):
            self.taken(NESTED, lift(thing, 3))
            self.refused(NESTED, lift(thing, 4), -1)
            self.refused(NESTED, lift(thing, 5), -1)
            self.refused(NESTED, lift(thing, GREATEST), -1)
        for thing in (1, 2, 3, 6):
            self.taken(NESTED, lift(thing, 4))
            self.refused(NESTED, lift(thing, 5), -1)
            self.refused(NESTED, lift(thing, GREATEST), -1)

    def test_the_refusal_told_first(self):
        self.refused([], lift(0, 1), -2)
        self.refused(NESTED, lift(8, 5), -2)
        self.refused(NESTED, lift(GREATEST, GREATEST), -2)
