import ast
import contextlib
import io
import pathlib
import unittest

import layersover.pictures
from helper import (GREATEST, begin, by_call, dot, drop, flat, group, how, in_one, layer, layers, lift, list_all,
                    matters, open_group, paint, row, shift)

PACKAGE = pathlib.Path(layersover.pictures.__file__).parent

ALL_CALLS = [layer(0, 64, 2, 2, [1, 2, 3, 4, 5, 6, 7, 8]), begin(3, 4), layer(), layer(32, 32, 1, 2, [9, 8, 7, 6]),
             group(0, 2), how(2, 0, 100, 3, 1), shift(1, 10, 20), paint(1, 0, 1, 255, 254), open_group(2), layer(65),
             group(0, 0), open_group(9), how(0, 2), shift(0, 0, 65), paint(0, 1, 0, 1, 1), begin(0, 0),
             layer(GREATEST, GREATEST, GREATEST, GREATEST, [GREATEST] * 200), list_all(), lift(0, 1), list_all(),
             shift(1, 33, 31), dot(0, 0), dot(1, 0), row(0), matters(0, 0), group(1, 1), drop(1), list_all(), flat(),
             row(0), dot(3, 0), row(4), matters(0, 4), drop(3), lift(3, 9), lift(4, 1), dot(GREATEST, GREATEST),
             row(GREATEST), matters(GREATEST, GREATEST), drop(GREATEST), lift(GREATEST, GREATEST), list_all()]
ALL_ANSWERS = [[0], [0], [0], [1], [2], [0], [0], [0], [2], [-1], [-1], [-2], [-1], [-1], [-1], [-1], [-1],
               [2, 0, 1], [0], [2, 1, 0],
               [0], [0, 4, 51, 2, 51], [0, 254, 255, 1, 1], [3, 10, 20, 255, 254, 0, 0], [1, 0], [3], [2], [2, 3, 0],
               [4], [3, 10, 20, 0, 0, 0, 0], [-1], [-1], [-1], [-2], [-2], [-1], [-1],
               [-1], [-1], [-2], [-2], [1, 4]]


def with_counts(apart):
    return in_one([[len(numbers)] + numbers for numbers in apart])


class Interface(unittest.TestCase):

    def test_for_each_call_how_many_numbers_then_these(self):
        self.assertEqual(layersover.pictures.answers([1, 1, 1]), [1, 0])
        self.assertEqual(layersover.pictures.answers([1, 9, 1]), [1, -1])
        self.assertEqual(layersover.pictures.answers([2, 32, 32, 1, 1, 2, 5, 6, 3, 0, 1, 4, 1]), [1, 0, 1, 1, 1, 1])
        self.assertEqual(layersover.pictures.answers([14]), [1, 0])
        self.assertEqual(layersover.pictures.answers([10, 0, 0]), [5, 0, 0, 1, 0, 1])
        self.assertEqual(layersover.pictures.answers([11, 0, 11, 1]), [3, 1, 0, 0, 1, -1])
        self.assertEqual(layersover.pictures.answers([13, 14, 12, 0, 0, 8, 0]), [1, 0, 2, 1, 0, 1, 0, 1, 0])

    def test_all_calls_in_one_list(self):
        awaited = with_counts(ALL_ANSWERS)
        self.assertEqual(layersover.pictures.answers(in_one(ALL_CALLS)), awaited)

    def test_a_row_of_pixels_is_as_long_as_told_even_if_it_is_refused(self):
        for count in (0, 1, 2, 3, 127, 128, 129, 200):
            calls = in_one([layer(32, 32, 8, 8, [1] * count), begin(1, 1)])
            first = 0 if count == 128 else -3
            self.assertEqual(layersover.pictures.answers(calls), [1, first, 1, 0])

    def test_a_list_of_whole_numbers_is_given_back(self):
        given = layersover.pictures.answers(in_one(ALL_CALLS))
        self.assertIs(type(given), list)
        self.assertEqual({type(number) for number in given}, {int})

    def test_sixty_calls(self):
        rows = [layer(32, 32, 8, 8, [255] * 200)] * 60
        self.assertEqual(layersover.pictures.answers(in_one(rows)), [1, -3] * 60)
        rows = [begin(8, 8)] + layers(9)
        awaited = [0] + list(range(9))
        for number in range(9, 34):
            rows = rows + [group(0, 9), open_group(number)]
            awaited = awaited + [number, 9]
        self.assertEqual(len(rows), 60)
        self.assertEqual(layersover.pictures.answers(in_one(rows)), in_one([[1, answer] for answer in awaited]))

    def test_sixty_looks_at_the_largest_picture(self):
        rows = [begin(8, 8)] + [layer(32, 32, 8, 8, list(range(k, 128 + k))) for k in range(10)]
        for y in range(8):
            rows = rows + [row(y), dot(y, 7), matters(7, y)]
        rows = rows + [list_all(), flat()] + [row(y) for y in range(8)] + [list_all()] * 15
        self.assertEqual(len(rows), 60)
        apart = by_call(layersover.pictures.answers(in_one(rows)))
        self.assertEqual(len(apart), 60)
        self.assertEqual(apart[37:45], apart[11:35:3])
        self.assertEqual(apart[35:37] + apart[45:], [[10] + list(range(10)), [10]] + [[1, 10]] * 15)

    def test_any_call_may_be_first(self):
        awaited = {8: [-2], 9: [-2], 10: [0, 0, 1, 0, 1], 11: [1, 0, 0], 12: [0], 13: [0], 14: [0]}
        for call in (drop(0), lift(0, 0), dot(), row(), matters(), flat(), list_all()):
            self.assertEqual(layersover.pictures.answers(call), with_counts([awaited[call[0]]]))

    def test_what_is_handed_in_is_as_it_was(self):
        calls = in_one(ALL_CALLS)
        before = list(calls)
        layersover.pictures.answers(calls)
        self.assertEqual(calls, before)

    def test_not_changed_for_a_while_either(self):
        class Held(list):
            def refuse(self, *told):
                raise AssertionError("what is handed in was changed")
            append = clear = extend = insert = pop = remove = reverse = sort = refuse
            __setitem__ = __delitem__ = __iadd__ = __imul__ = refuse
        awaited = with_counts(ALL_ANSWERS)
        self.assertEqual(layersover.pictures.answers(Held(in_one(ALL_CALLS))), awaited)

    def test_a_second_time_is_as_the_first(self):
        calls = in_one(ALL_CALLS)
        first = layersover.pictures.answers(calls)
        first_copy = list(first)
        self.assertEqual(layersover.pictures.answers(calls), first_copy)
        first.clear()
        self.assertEqual(layersover.pictures.answers(calls), first_copy)

    def test_nothing_is_kept_from_one_time_to_the_next(self):
        layersover.pictures.answers(in_one([begin(8, 8)] + layers(10)))
        self.assertEqual(layersover.pictures.answers(how(0)), [1, -2])
        self.assertEqual(layersover.pictures.answers(layer()), [1, 0])

    def test_it_prints_nothing(self):
        out = io.StringIO()
        with contextlib.redirect_stdout(out), contextlib.redirect_stderr(out):
            layersover.pictures.answers(in_one(ALL_CALLS))
        self.assertEqual(out.getvalue(), "")

    def test_it_imports_nothing_but_itself(self):
        for path in PACKAGE.glob("*.py"):
            for node in ast.walk(ast.parse(path.read_text())):
                self.assertNotIsInstance(node, ast.Import)
                if isinstance(node, ast.ImportFrom):
                    self.assertEqual((node.module.split(".")[0], node.level), ("layersover", 0))
