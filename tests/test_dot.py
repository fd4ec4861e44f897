from helper import (GREATEST, CallCase, all_dots, begin, dot, drop, group, how, last, layer, layers, lift, open_group,
                    paint, shift)

NOT_COVERED = [0, 0, 1, 0, 1]


def below_and_above(below, above, way):
    return [layer(pixels=below), layer(pixels=above), how(1, way=way)]


class Dot(CallCase):

    def test_no_things_at_all(self):
        self.looked([], dot(), NOT_COVERED)
        self.assertEqual(all_dots([begin(3, 2)]), [NOT_COVERED] * 6)

    def test_how_much_is_covered_then_the_colour(self):
        self.looked([layer(pixels=(51, 170))], dot(), [0, 2, 3, 1, 5])

    def test_lowest_terms(self):
        self.looked([layer(pixels=(1, 2))], dot(), [0, 2, 255, 1, 255])
        self.looked([layer(pixels=(254, 253))], dot(), [0, 253, 255, 254, 255])
        self.looked([layer(pixels=(34, 30))], dot(), [0, 2, 17, 2, 15])

    def test_all_and_nothing(self):
        self.looked([layer(pixels=(255, 255))], dot(), [0, 1, 1, 1, 1])
        self.looked([layer(pixels=(0, 255))], dot(), [0, 1, 1, 0, 1])
        self.looked([layer(pixels=(255, 0))], dot(), NOT_COVERED)
        self.looked([layer(pixels=(0, 0))], dot(), NOT_COVERED)

    def test_large_numbers_are_exact(self):
        rows = [layer(pixels=(1, 1)), how(0, strong=1), layer(pixels=(2, 1)), how(1, strong=1)]
        # s and b are 1 of 65025, S and B 2 and 1 of 255: covered is 2 * 65025 - 1 of 65025 * 65025.
        # 2 * 65024 and 65024 and 2, together 195074, of 255 times the same, divided by what is covered.
        self.looked(rows, dot(), [0, 130049, 65025 * 65025, 195074, 255 * 130049])

    # Of the lower one 3/5, of the upper one 1/3 is covered: 11/15 together, 1/5 by both.
    def each_way(self, below, above, colours):
        for way, colour in enumerate(colours):
            self.looked(below_and_above((below, 153), (above, 85), way), dot(), [0, 11, 15] + colour)

    def test_each_way_upper_darker(self):
        # B is 4/5, S 1/3: 1/3 * 1/3 * 2/5 and 4/5 * 3/5 * 2/3 are 82/225; M is 1/3, 4/15, 13/15, 1/3, 4/5, 7/15, 1.
        self.each_way(204, 85, [[97, 165], [94, 165], [11, 15], [97, 165], [118, 165], [103, 165], [127, 165]])

    def test_each_way_upper_lighter(self):
        # B is 1/5, S 4/5: 4/5 * 1/3 * 2/5 and 1/5 * 3/5 * 2/3 are 14/75; M is 4/5, 4/25, 21/25, 1/5, 4/5, 3/5, 1.
        self.each_way(51, 204, [[26, 55], [82, 275], [133, 275], [17, 55], [26, 55], [23, 55], [29, 55]])

    def test_each_way_together_less_than_1(self):
        # B is 1/3, S 1/5: 1/5 * 1/3 * 2/5 and 1/3 * 3/5 * 2/3 are 12/75; M is 1/5, 1/15, 7/15, 1/5, 1/3, 2/15, 8/15.
        self.each_way(85, 51, [[3, 11], [13, 55], [19, 55], [3, 11], [17, 55], [14, 55], [4, 11]])

    def test_each_way_wholly_covered_is_M(self):
        colours = [[1, 5], [2, 15], [11, 15], [1, 5], [2, 3], [7, 15], [13, 15]]
        for way in range(7):
            self.looked(below_and_above((170, 255), (51, 255), way), dot(), [0, 1, 1] + colours[way])

    def test_the_way_of_the_lower_one_does_not_matter(self):
        for way in range(7):
            rows = [layer(pixels=(204, 153)), layer(pixels=(85, 85)), how(0, way=way)]
            self.looked(rows, dot(), [0, 11, 15, 97, 165])

    def test_three_one_behind_another(self):
        # The lower two are 11/15 of 97/165: 97/225 in all. With 1 of 1/5 by way 1 above it:
        # 1/5 * 4/15 and 97/225 * 1/5 are 12/225 and 97/1125, together 157/1125.
        rows = [layer(pixels=(204, 153)), layer(pixels=(85, 85)), layer(pixels=(51, 255)), how(2, way=1)]
        self.looked(rows, dot(), [0, 1, 1, 157, 1125])

    def test_not_seen(self):
        rows = [layer(pixels=(51, 255)), layer(pixels=(85, 255))]
        self.looked(rows + [how(1, seen=0)], dot(), [0, 1, 1, 1, 5])
        self.looked(rows + [how(0, seen=0)], dot(), [0, 1, 1, 1, 3])
        self.looked(rows + [how(0, seen=0), how(1, seen=0)], dot(), NOT_COVERED)
        self.looked(rows + [how(1, seen=0), how(1)], dot(), [0, 1, 1, 1, 3])

    def test_a_group_that_is_not_seen(self):
        rows = [layer(pixels=(51, 255)), layer(pixels=(85, 255)), group(1, 1), how(2, seen=0)]
        self.looked(rows, dot(), [0, 1, 1, 1, 5])
        self.looked(rows + [open_group(2)], dot(), [0, 1, 1, 1, 3])


class Strong(CallCase):

    def test_a_layer(self):
        self.looked([layer(pixels=(51, 255)), how(0, strong=85)], dot(), [0, 1, 3, 1, 5])
        self.looked([layer(pixels=(51, 170)), how(0, strong=153)], dot(), [0, 2, 5, 1, 5])
        self.looked([layer(pixels=(51, 1)), how(0, strong=1)], dot(), [0, 1, 65025, 1, 5])

    def test_not_at_all(self):
        self.looked([layer(pixels=(51, 255)), how(0, strong=0)], dot(), NOT_COVERED)
        self.looked([layer(pixels=(51, 255)), group(0, 1), how(1, strong=0)], dot(), NOT_COVERED)

    def test_over_another(self):
        # Wholly covered, but 1/3 strong, over 3/5: as in each way.
        self.looked([layer(pixels=(204, 153)), layer(pixels=(85, 255)), how(1, strong=85)], dot(), [0, 11, 15, 97, 165])

    def test_a_group(self):
        rows = [layer(pixels=(204, 153)), layer(pixels=(85, 85)), group(0, 2), how(2, strong=85)]
        self.looked(rows, dot(), [0, 11, 45, 97, 165])

    def test_a_group_and_what_is_in_it(self):
        rows = [layer(pixels=(51, 255)), how(0, strong=170), group(0, 1), how(1, strong=153), group(1, 1),
                how(2, strong=51)]
        self.looked(rows, dot(), [0, 2, 25, 1, 5])


class Groups(CallCase):

    def test_a_group_is_put_together_over_nothing(self):
        # By way 1 over nothing in its group the upper one is itself; by itself it would be mixed in.
        rows = below_and_above((204, 255), (102, 255), 1)
        self.looked(rows, dot(), [0, 1, 1, 8, 25])
        self.looked(rows + [group(1, 1)], dot(), [0, 1, 1, 2, 5])

    def test_the_way_of_a_group(self):
        # In the group 1/3 over 3/5 are 11/15 of 97/165; all of it over 1 of 1/5 by way 4: M is 97/165.
        # 97/225 and 1/5 * 4/15 are 109/225.
        rows = [layer(pixels=(51, 255)), layer(pixels=(204, 153)), layer(pixels=(85, 85)), group(1, 2), how(3, way=4)]
        self.looked(rows, dot(), [0, 1, 1, 109, 225])

    def test_without_things(self):
        rows = [layer(pixels=(51, 170)), layer(), group(1, 1), drop(1)]
        for way in range(7):
            self.looked(rows + [how(2, way=way)], dot(), [0, 2, 3, 1, 5])
        self.looked(rows + [lift(0, 1)], dot(), [0, 2, 3, 1, 5])
        self.looked(rows + [drop(0)], dot(), NOT_COVERED)

    def test_groups_in_groups(self):
        rows = layers(1) + [paint(0, 0, 0, 51, 170)] + [group(k, 1) for k in range(9)]
        self.looked(rows, dot(), [0, 2, 3, 1, 5])
        self.looked(rows + [how(k, strong=153) for k in range(3, 6)], dot(), [0, 18, 125, 1, 5])


class Clipped(CallCase):

    BASE = [layer(pixels=(204, 153)), layer(pixels=(51, 85)), how(1, clipped=1)]

    def test_to_what_is_below(self):
        # 1/3 times 3/5 is 1/5, over 3/5: 17/25; 1/5 * 1/5 and 4/5 * 3/5 * 4/5 are 53/125.
        self.looked(self.BASE, dot(), [0, 17, 25, 53, 85])

    def test_in_its_way(self):
        # M is 4/25 (way 1): 1/5 * 1/5 * 2/5 and 4/5 * 3/5 * 4/5 and 3/25 * 4/25 are 262/625.
        self.looked(self.BASE + [how(1, way=1, clipped=1)], dot(), [0, 17, 25, 262, 425])

    def test_as_strong_as_it_is(self):
        rows = [layer(pixels=(204, 153)), layer(pixels=(51, 255)), how(1, strong=85, clipped=1)]
        self.looked(rows, dot(), [0, 17, 25, 53, 85])

    def test_to_what_covers_as_strong_as_that_is(self):
        rows = [layer(pixels=(204, 255)), layer(pixels=(51, 85)), how(1, clipped=1), how(0, strong=153)]
        self.looked(rows, dot(), [0, 17, 25, 53, 85])

    def test_several_one_above_another(self):
        # Both to the lowest, not the upper one to the one below it: 1 times 3/5, over 17/25: 109/125.
        # 0 * 3/5 and 53/125 * 2/5 are 106/625.
        rows = self.BASE + [layer(pixels=(0, 255)), how(2, clipped=1)]
        self.looked(rows, dot(), [0, 109, 125, 106, 545])

    def test_the_nearest_that_is_not_clipped(self):
        # The last one is clipped to the third, which is 1/5 covered, not to the first: 1/5, over 1.
        rows = [layer(pixels=(0, 255)), layer(pixels=(0, 255)), how(1, clipped=1), layer(pixels=(0, 51)),
                layer(pixels=(255, 255)), how(3, clipped=1)]
        self.looked(rows, dot(), [0, 1, 1, 1, 5])

    def test_nothing_below_that_is_not_clipped(self):
        self.looked([layer(pixels=(51, 255)), how(0, clipped=1)], dot(), NOT_COVERED)
        self.looked(self.BASE + [how(0, clipped=1)], dot(), NOT_COVERED)
        self.looked(self.BASE + [how(0, clipped=1), layer(pixels=(51, 170))], dot(), [0, 2, 3, 1, 5])

    def test_in_a_group_what_is_below_the_group_does_not_count(self):
        rows = [layer(pixels=(51, 255)), layer(pixels=(204, 255)), how(1, clipped=1)]
        self.looked(rows, dot(), [0, 1, 1, 4, 5])
        self.looked(rows + [group(1, 1)], dot(), [0, 1, 1, 1, 5])

    def test_in_a_group_to_what_is_below_it_there(self):
        self.looked(self.BASE + [group(0, 2)], dot(), [0, 17, 25, 53, 85])

    def test_above_something_that_is_not_seen(self):
        rows = [layer(pixels=(170, 255)), layer(pixels=(204, 153)), layer(pixels=(51, 85)), how(2, clipped=1)]
        self.looked(rows + [how(1, seen=0)], dot(), [0, 1, 1, 2, 3])
        self.looked(rows + [how(1, strong=0)], dot(), [0, 1, 1, 2, 3])
        self.looked(self.BASE + [how(0, seen=0)], dot(), NOT_COVERED)

    def test_one_that_is_not_seen_itself(self):
        self.looked(self.BASE + [how(1, seen=0, clipped=1)], dot(), [0, 3, 5, 4, 5])

    def test_to_a_group(self):
        # The group covers 11/15; all of it clipped to that is 11/15 over 11/15: 209/225.
        # 0 and 97/225 * 4/15 are 388/3375, divided by 209/225.
        rows = [layer(pixels=(204, 153)), layer(pixels=(85, 85)), group(0, 2), layer(pixels=(0, 255)),
                how(3, clipped=1)]
        self.looked(rows, dot(), [0, 209, 225, 388, 3135])

    def test_to_a_group_without_things(self):
        rows = layers(1) + [group(0, 1), drop(0), layer(pixels=(51, 255)), how(2, clipped=1)]
        self.looked(rows, dot(), NOT_COVERED)

    def test_a_group_that_is_clipped(self):
        rows = [layer(pixels=(204, 153)), layer(pixels=(51, 85)), group(1, 1), how(2, clipped=1)]
        self.looked(rows, dot(), [0, 17, 25, 53, 85])

    def test_pixel_by_pixel(self):
        rows = [begin(3, 1), layer(32, 32, 2, 1, [0, 255, 0, 51]), layer(33, 32, 2, 1, [255, 255, 255, 255]),
                how(1, clipped=1)]
        # At column 1 1/5 over 1/5: 9/25, of which 1/5 is of colour 1; at column 2 nothing is below.
        self.assertEqual(all_dots(rows), [[0, 1, 1, 0, 1], [0, 9, 25, 5, 9], NOT_COVERED])


class Where(CallCase):

    # Of each pixel the cover tells which it is: 1 to 6 seventeenths.
    SIX = layer(32, 32, 3, 2, [0, 15, 0, 30, 0, 45, 0, 60, 0, 75, 0, 90])

    def lies(self, x, y, awaited):
        rows = [begin(3, 2), self.SIX, shift(0, x, y)]
        covers = [[0, part, 17, 0, 1] if part else NOT_COVERED for part in awaited]
        with self.subTest(x=x, y=y):
            self.assertEqual(all_dots(rows), covers)

    def test_where_the_picture_is(self):
        self.lies(32, 32, [1, 2, 3, 4, 5, 6])

    def test_in_part_beyond_the_picture(self):
        self.lies(31, 32, [2, 3, 0, 5, 6, 0])
        self.lies(33, 32, [0, 1, 2, 0, 4, 5])
        self.lies(32, 31, [4, 5, 6, 0, 0, 0])
        self.lies(32, 33, [0, 0, 0, 1, 2, 3])
        self.lies(30, 31, [6, 0, 0, 0, 0, 0])
        self.lies(34, 33, [0, 0, 0, 0, 0, 1])

    def test_wholly_beyond_the_picture(self):
        for x, y in [(29, 32), (35, 32), (32, 30), (32, 34), (0, 0), (64, 64), (0, 64), (64, 0)]:
            self.lies(x, y, [0] * 6)

    def test_larger_than_the_picture(self):
        pixels = [part for k in range(64) for part in (k, 255)]
        rows = [begin(2, 1), layer(27, 28, 8, 8, pixels)]
        self.assertEqual(all_dots(rows), [[0, 1, 1, 37, 255], [0, 1, 1, 38, 255]])

    def test_smaller_than_the_picture(self):
        rows = [begin(2, 2), layer(33, 32, 1, 1, (51, 255))]
        self.assertEqual(all_dots(rows), [NOT_COVERED, [0, 1, 1, 1, 5], NOT_COVERED, NOT_COVERED])

    def test_the_last_column_and_row_and_one_beyond(self):
        for w, h in [(1, 1), (3, 2), (8, 8), (1, 8), (8, 1)]:
            rows = [begin(w, h)] + layers(1)
            self.assertEqual(len(last(rows + [dot(w - 1, h - 1)])), 5)
            for x, y in [(w, 0), (0, h), (w, h), (w, h - 1), (w - 1, h)]:
                self.refused(rows, dot(x, y), -1)

    def test_no_such_pixel(self):
        for x, y in [(GREATEST, 0), (0, GREATEST), (GREATEST, GREATEST), (8, 0), (0, 9)]:
            self.refused([begin(8, 8)], dot(x, y), -1)
        self.refused([], dot(1, 0), -1)
        self.refused([], dot(0, 1), -1)
        self.refused([begin(5, 5), begin(0, 9), begin(2, 2)], dot(2, 0), -1)
