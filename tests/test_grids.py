import itertools
import unittest

from tests.helper import (BAR, CORNER, CUP, DOMINO, GRIDS, RING, SQUARE, ask, covering_shapes, grids_of, laid_copies,
                          moved, plain_grids, plain_shape_answer, raw_shape, shape, taken_shapes, triples,
                          window_shapes)

COMB = [(x, 0) for x in range(7)] + [(x, 1) for x in range(0, 7, 2)] + [(0, 2)]
KNOWN = ((SQUARE, [(1, 0, 1)]),
         (DOMINO, [(2, 0, 1), (2, 1, 1)]),
         ([(0, 0), (0, 1)], [(1, 0, 2), (2, 1, 1)]),
         (CORNER, [(3, 1, 1)]),
         (BAR, [(3, 0, 1), (3, 1, 1), (3, 2, 1)]),
         ([(0, 0), (1, 0), (0, 1), (1, 1)], [(2, 0, 2), (2, 1, 2), (4, 2, 1)]),
         ([(0, 0), (1, 0), (1, 1), (2, 1)], [(2, 0, 2), (2, 1, 2), (4, 3, 1)]))


class KnownGrids(unittest.TestCase):
    def test_at_the_beginning_that_of_the_one_square(self):
        self.assertEqual(ask(GRIDS), [[1, 1, 0, 1]])
        self.assertEqual(ask(raw_shape([]), GRIDS), [[-1], [1, 1, 0, 1]])

    def test_of_small_shapes(self):
        for squares, grids in KNOWN:
            self.assertEqual(ask(shape(squares), GRIDS)[1],
                             [len(grids)] + [number for grid in grids for number in grid], squares)

    def test_none(self):
        self.assertEqual(ask(shape(CUP), GRIDS), [[12], [0]])
        self.assertEqual(ask(shape(COMB), GRIDS), [[26], [0]])

    def test_of_flat_bars(self):
        for count in range(1, 13):
            bar = [(x, 11) for x in range(count)]
            self.assertEqual(grids_of(bar), [(count, b, 1) for b in range(count)])

    def test_of_upright_bars(self):
        self.assertEqual(grids_of([(11, y) for y in range(12)]), plain_grids([(0, y) for y in range(12)]))
        self.assertEqual(grids_of([(0, y) for y in range(4)]),
                         [(1, 0, 4), (2, 1, 2), (4, 1, 1), (4, 3, 1)])

    def test_of_a_block_of_twelve_at_the_far_end(self):
        block = [(x, y) for x in range(8, 12) for y in range(9, 12)]
        self.assertEqual(grids_of(block), [(4, 0, 3), (4, 1, 3), (4, 2, 3), (4, 3, 3), (12, 4, 1), (12, 8, 1)])

    def test_told_in_any_order(self):
        for squares, grids in KNOWN:
            for order in itertools.permutations(squares):
                self.assertEqual(grids_of(order), grids, order)
        for order in itertools.permutations(CUP):
            self.assertEqual(grids_of(order), [], order)

    def test_wherever_the_shape_lies(self):
        for squares, grids in KNOWN:
            width = max(x for x, y in squares)
            height = max(y for x, y in squares)
            for right, up in itertools.product(range(12 - width), range(12 - height)):
                self.assertEqual(grids_of(moved(squares, right, up)), grids, (squares, right, up))

    def test_of_the_shape_told_last(self):
        self.assertEqual(ask(shape(CUP), GRIDS, shape(CORNER), GRIDS, shape(CUP), GRIDS),
                         [[12], [0], [8], [1, 3, 1, 1], [12], [0]])

    def test_a_refused_shape_leaves_the_grids(self):
        self.assertEqual(ask(shape(CORNER), shape(RING), GRIDS, raw_shape([0]), GRIDS),
                         [[8], [-6], [1, 3, 1, 1], [-1], [1, 3, 1, 1]])

    def test_asking_for_grids_changes_nothing(self):
        told = ask(shape(BAR), GRIDS, GRIDS)
        self.assertEqual(told[1], told[2])


class EveryGrid(unittest.TestCase):
    def check(self, squares):
        told = ask(shape(squares), GRIDS)[1]
        grids = triples(told)
        self.assertEqual(told[0], len(grids), squares)
        self.assertEqual(len(told), 1 + 3 * len(grids), squares)
        self.assertEqual(grids, plain_grids(squares), squares)
        self.assertEqual(grids, sorted(set(grids)), squares)

    def test_of_each_shape_of_up_to_6_squares_and_some_of_8_to_12(self):
        for squares in taken_shapes(6, 100):
            self.check(squares)

    def test_of_each_shape_in_a_window(self):
        for squares in window_shapes(3, 3):
            if plain_shape_answer(squares) > 0:
                self.check(squares)

    def test_of_shapes_grown_on_a_grid(self):
        sizes = set()
        for squares, grid in covering_shapes(240):
            self.assertIn(grid, grids_of(squares), squares)
            self.check(squares)
            sizes.add(len(squares))
        self.assertEqual(sizes, set(range(1, 13)))

    def test_copies_laid_down_lie_once_on_each_square(self):
        for squares, grid in covering_shapes(120):
            for told in grids_of(squares):
                self.assertEqual({len(copies) for copies in laid_copies(squares, told, -7, -9, 25).values()}, {1})


if __name__ == "__main__":
    unittest.main()
