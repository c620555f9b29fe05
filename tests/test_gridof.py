import itertools
import unittest

from tests.helper import (BAR, CORNER, CUP, DOMINO, EDGE, GRIDS, RING, SQUARE, TOP, ask, covering_shapes, cuts_of,
                          edge_of, gridof, grids_of, grown_shapes, makes_same_moves, moved, moves, raw_shape, shape,
                          taken_shapes)


class KnownNumbers(unittest.TestCase):
    def test_at_the_beginning_those_of_the_one_square(self):
        self.assertEqual(ask(gridof(0, 1, 1), gridof(1, 1, 1)), [[0], [0]])

    def test_of_a_domino(self):
        # The cuts' moves are 2 0 1 1, 2 1 0 1, 1 1 -1 1, -1 1 -2 0 and -2 1 -2 0; the grids are 2 0 1 and 2 1 1.
        told = ask(shape(DOMINO), gridof(0, 1, 1), gridof(0, 2, 1), gridof(1, 1, 1), gridof(2, 1, 1), gridof(2, 1, 2))
        self.assertEqual(told[1:], [[1], [0], [1], [1], [0]])

    def test_of_a_corner(self):
        told = ask(shape(CORNER), gridof(1, 1, 1), gridof(2, 1, 2), gridof(3, 2, 1))
        self.assertEqual(told[1:], [[0], [0], [0]])

    def test_of_twelve_squares(self):
        # The cuts' moves are 12 1 0 1, 12 0 11 1, 12 0 1 1 and -12 1 -12 0; grid number b of this bar is 12 b 1.
        bar = [(x, 0) for x in range(12)]
        told = ask(shape(bar), gridof(0, 12, 1), gridof(0, 1, 11), gridof(0, 11, 1), gridof(12, 1, 12))
        self.assertEqual(told[1:], [[0], [11], [1], [0]])

    def test_wherever_the_shape_lies_and_in_whatever_order_it_is_told(self):
        for squares in (DOMINO, BAR, CORNER):
            questions = [gridof(*cut) for cut in cuts_of(squares)]
            told = ask(shape(squares), *questions)
            self.assertEqual(ask(shape(moved(squares, 9, 10)), *questions), told)
            for order in itertools.permutations(squares):
                self.assertEqual(ask(shape(order), *questions), told)

    def test_behind_a_refused_shape_those_of_the_old_one(self):
        self.assertEqual(ask(shape(RING), gridof(1, 1, 1), gridof(2, 1, 2)), [[-6], [0], [-3]])
        self.assertEqual(ask(shape(DOMINO), raw_shape([]), gridof(2, 1, 1), gridof(2, 1, 2)), [[6], [-1], [1], [0]])


class EveryCut(unittest.TestCase):
    def check(self, squares):
        grids = grids_of(squares)
        numbers = []
        for cut in cuts_of(squares):
            steps, number, four = ask(shape(squares), gridof(*cut), moves(*cut))
            self.assertEqual(len(number), 1, (squares, cut))
            self.assertIn(number[0], range(len(grids)), (squares, cut))
            self.assertTrue(makes_same_moves(grids[number[0]], four), (squares, cut))
            numbers.append(number[0])
        # Each grid by which the shape covers comes of a cut, so none is told without one.
        self.assertEqual(sorted(set(numbers)), list(range(len(grids))), squares)
        return len(grids), len(numbers)

    def test_of_each_shape_of_up_to_7_squares_and_some_of_8_to_12(self):
        for squares in taken_shapes(7, 300):
            self.check(squares)

    def test_of_shapes_grown_on_a_grid(self):
        counts = [self.check(squares) for squares, grid in covering_shapes(240)]
        self.assertTrue(any(grids > 1 and cuts > grids for grids, cuts in counts))
        self.assertTrue(any(grids == 1 and cuts > 1 for grids, cuts in counts))

    def test_of_bars_and_blocks(self):
        for width, height in ((12, 1), (1, 12), (6, 2), (2, 6), (4, 3), (3, 4), (3, 3), (11, 1)):
            self.check([(x, y) for x in range(width) for y in range(height)])

    def test_a_number_for_each_cut_and_for_no_other(self):
        for squares in grown_shapes(4):
            half = len(edge_of(squares)) // 2
            cuts = cuts_of(squares)
            for i, a, b in itertools.product(range(half + 2), repeat=3):
                told = ask(shape(squares), gridof(i, a, b))[1]
                self.assertEqual(len(told), 1)
                self.assertEqual(told[0] >= 0, (i, a, b) in cuts, (squares, i, a, b))
                self.assertIn(told[0], [-3] + list(range(len(grids_of(squares)))))


class NoSuchCut(unittest.TestCase):
    def refused(self, squares, i, a, b):
        told = ask(shape(squares), EDGE, GRIDS, gridof(i, a, b), EDGE, GRIDS)
        self.assertEqual(told[3], [-3], (squares, i, a, b))
        self.assertEqual(told[1:3], told[4:6])

    def test_with_a_or_b_of_0(self):
        for i in range(3):
            for a, b in ((0, 0), (0, 1), (0, 2), (0, 3), (1, 0), (2, 0), (3, 0), (0, TOP), (TOP, 0)):
                self.refused(SQUARE, i, a, b)
                self.refused(DOMINO, i, a, b)

    def test_i_of_0_where_no_cut_begins(self):
        for a, b in itertools.product(range(5), range(5)):
            self.refused(CORNER, 0, a, b)

    def test_at_half_of_the_steps_and_beyond(self):
        for i in (2, 3, 4, 5, 6, 8):
            self.refused(SQUARE, i, 1, 1)
        for a, b in ((2, 1), (1, 2), (2, 2), (3, 1), (4, 4)):
            self.refused(SQUARE, 0, a, b)
        for squares in (DOMINO, BAR, CORNER, CUP, [(x, 0) for x in range(12)]):
            half = len(edge_of(squares)) // 2
            for i, a, b in cuts_of(squares)[:8] + [(0, 1, 1)]:
                self.refused(squares, i + half, a, b)
                self.refused(squares, half, a, b)
                self.refused(squares, i, half, b)
                self.refused(squares, i, a, half)

    def test_the_greatest_numbers(self):
        for i, a, b in itertools.product((0, 1, TOP), (1, 2, TOP), (1, 2, TOP)):
            if TOP in (i, a, b):
                self.refused(SQUARE, i, a, b)
                self.refused(DOMINO, i, a, b)
                self.refused(CUP, i, a, b)

    def test_where_there_is_no_cut_at_all(self):
        for i, a, b in itertools.product(range(7), range(8), range(8)):
            self.assertEqual(ask(shape(CUP), gridof(i, a, b)), [[12], [-3]])


if __name__ == "__main__":
    unittest.main()
