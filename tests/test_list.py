from helper import CallCase, begin, drop, flat, group, how, layers, lift, list_all, open_group


class List(CallCase):

    def test_no_things_at_all(self):
        self.looked([], list_all(), [0])
        self.looked([begin(8, 8)], list_all(), [0])
        self.looked(layers(3) + [begin(1, 1)], list_all(), [0])
        self.looked(layers(1) + [drop(0)], list_all(), [0])

    def test_from_below(self):
        self.looked(layers(1), list_all(), [1, 0])
        self.looked(layers(4), list_all(), [4, 0, 1, 2, 3])
        self.looked(layers(10), list_all(), [10] + list(range(10)))
        self.looked(layers(4) + [lift(3, 1)], list_all(), [4, 0, 3, 1, 2])

    def test_a_group_ahead_of_what_is_in_it(self):
        self.looked(layers(4) + [group(1, 2)], list_all(), [3, 0, 4, 1, 2, 3])
        self.looked(layers(4) + [group(0, 4)], list_all(), [1, 4, 0, 1, 2, 3])

    def test_groups_in_groups(self):
        rows = layers(6) + [group(1, 2), group(6, 2)]
        self.looked(rows, list_all(), [4, 0, 7, 6, 1, 2, 3, 4, 5])
        self.looked(rows + [open_group(7)], list_all(), [5, 0, 6, 1, 2, 3, 4, 5])
        self.looked(layers(1) + [group(k, 1) for k in range(9)], list_all(), [1] + list(range(9, -1, -1)))

    def test_a_group_without_things(self):
        rows = layers(2) + [group(0, 1)]
        self.looked(rows + [drop(0)], list_all(), [2, 2, 1])
        self.looked(rows + [lift(0, 2)], list_all(), [3, 2, 1, 0])
        self.looked(rows + [drop(0), drop(1)], list_all(), [1, 2])

    def test_what_is_not_seen_is_there_all_the_same(self):
        self.looked(layers(2) + [group(0, 1), how(0, seen=0), how(2, seen=0)], list_all(), [2, 2, 0, 1])

    def test_behind_flat(self):
        self.looked(layers(3) + [flat()], list_all(), [1, 3])
