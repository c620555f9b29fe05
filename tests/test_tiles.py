import itertools
import unittest

from tests.helper import (BAR, CORNER, CUP, CUTS, DOMINO, GRIDS, RING, SQUARE, TILES, ask, can_be_surrounded,
                          covering_shapes, moved, plain_shape_answer, raw_shape, shape, taken_shapes, window_shapes)

GAP = [(x, 0) for x in range(5)] + [(0, 1), (4, 1)]
COMB = [(x, 0) for x in range(7)] + [(x, 1) for x in range(0, 7, 2)] + [(0, 2)]
STAIR = [(k // 2, (k + 1) // 2) for k in range(12)]


class KnownShapes(unittest.TestCase):
    def test_at_the_beginning_the_one_square(self):
        self.assertEqual(ask(TILES), [[1]])

    def test_shapes_that_cover(self):
        for squares in (SQUARE, DOMINO, BAR, CORNER, STAIR):
            self.assertEqual(ask(shape(squares), TILES)[1], [1], squares)

    def test_bars_of_1_to_12_squares(self):
        for count in range(1, 13):
            self.assertEqual(ask(shape([(x, 11) for x in range(count)]), TILES)[1], [1])
            self.assertEqual(ask(shape([(11, y) for y in range(count)]), TILES)[1], [1])

    def test_shapes_that_do_not(self):
        for squares in (CUP, GAP, COMB):
            self.assertEqual(ask(shape(squares), TILES)[1], [0], squares)

    def test_a_shape_that_would_cover_only_if_it_were_turned(self):
        self.assertEqual(ask(shape([(0, 0), (1, 0), (2, 0), (3, 0), (0, 1), (3, 1)]), TILES)[1], [0])

    def test_told_in_any_order_and_anywhere(self):
        for squares, told in ((CUP, [0]), (CORNER, [1])):
            for order in itertools.permutations(squares):
                self.assertEqual(ask(shape(moved(order, 9, 10)), TILES)[1], told)

    def test_behind_a_refused_shape_that_of_the_old_one(self):
        self.assertEqual(ask(shape(RING), TILES, shape(CUP), TILES, shape(RING), TILES, raw_shape([]), TILES),
                         [[-6], [1], [12], [0], [-6], [0], [-1], [0]])


class EveryShape(unittest.TestCase):
    def check(self, squares):
        told, grids, cuts = ask(shape(squares), TILES, GRIDS, CUTS)[1:]
        self.assertEqual(told, [1 if can_be_surrounded(squares) else 0], squares)
        self.assertEqual(told, [1 if grids[0] > 0 else 0], squares)
        self.assertEqual(told, [1 if cuts[0] > 0 else 0], squares)
        return told[0]

    def test_of_each_shape_of_up_to_7_squares_and_some_of_8_to_12(self):
        found = {(len(squares), self.check(squares)) for squares in taken_shapes(7, 400)}
        self.assertEqual(found, {(count, 1) for count in range(1, 13)} | {(count, 0) for count in range(5, 13)})

    def test_of_each_shape_in_a_window(self):
        for squares in window_shapes(4, 3):
            if plain_shape_answer(squares) > 0:
                self.check(squares)

    def test_of_shapes_grown_on_a_grid(self):
        for squares, grid in covering_shapes(120):
            self.assertEqual(self.check(squares), 1)


if __name__ == "__main__":
    unittest.main()
