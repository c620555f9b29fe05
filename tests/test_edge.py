import itertools
import unittest

from tests.helper import (BAR, CORNER, CUP, DOMINO, EDGE, SQUARE, ask, edge_of, end_of, grown_shapes, large_shapes,
                          moved, plain_shape_answer, raw_shape, shape, window_shapes)


class KnownEdges(unittest.TestCase):
    def test_at_the_beginning_the_one_square(self):
        self.assertEqual(ask(EDGE), [[4, 0, 1, 2, 3]])
        self.assertEqual(ask(raw_shape([]), EDGE), [[-1], [4, 0, 1, 2, 3]])

    def test_of_small_shapes(self):
        for squares, steps in ((SQUARE, [0, 1, 2, 3]), (DOMINO, [0, 0, 1, 2, 2, 3]), (BAR, [0, 0, 0, 1, 2, 2, 2, 3]),
                               ([(0, 0), (0, 1)], [0, 1, 1, 2, 3, 3]), (CORNER, [0, 0, 1, 2, 1, 2, 3, 3]),
                               (CUP, [0, 0, 0, 1, 1, 2, 3, 2, 1, 2, 3, 3])):
            self.assertEqual(ask(shape(squares), EDGE), [[len(steps)], [len(steps)] + steps])

    def test_begins_at_the_lowest_row_though_a_higher_one_lies_farther_left(self):
        self.assertEqual(edge_of([(0, 1), (1, 1), (1, 0), (2, 0)]), [0, 0, 1, 2, 1, 2, 2, 3, 0, 3])

    def test_begins_at_the_leftmost_square_of_the_lowest_row(self):
        arch = [(5, 0), (5, 1), (4, 1), (3, 1), (3, 0)]
        self.assertEqual(edge_of(arch), [0, 1, 0, 3, 0, 1, 1, 2, 2, 2, 3, 3])

    def test_twelve_squares_at_the_far_end(self):
        block = [(x, y) for x in range(8, 12) for y in range(9, 12)]
        self.assertEqual(edge_of(block), [0] * 4 + [1] * 3 + [2] * 4 + [3] * 3)
        self.assertEqual(edge_of([(x, 11) for x in range(12)]), [0] * 12 + [1] + [2] * 12 + [3])

    def test_is_the_same_in_whatever_order_the_squares_are_told(self):
        for squares in itertools.permutations(CUP):
            self.assertEqual(edge_of(squares), edge_of(CUP))

    def test_is_the_same_wherever_the_shape_lies(self):
        for right, up in itertools.product(range(10), range(11)):
            self.assertEqual(edge_of(moved(CUP, right, up)), edge_of(CUP))


class EveryEdge(unittest.TestCase):
    def check(self, squares):
        steps = edge_of(squares)
        self.assertEqual(len(steps), plain_shape_answer(squares))
        self.assertEqual(len(steps) % 2, 0)
        low, left = min((y, x) for x, y in squares)
        corner = (left, low)
        sides = set()
        for step in steps:
            x, y = corner
            inside, outside = {0: ((x, y), (x, y - 1)), 1: ((x - 1, y), (x, y)), 2: ((x - 1, y - 1), (x - 1, y)),
                               3: ((x, y - 1), (x - 1, y - 1))}[step]
            self.assertIn(inside, squares)
            self.assertNotIn(outside, squares)
            sides.add((inside, outside))
            move = end_of([step])
            corner = (x + move[0], y + move[1])
        self.assertEqual(corner, (left, low))
        self.assertEqual(len(sides), len(steps))

    def test_of_each_joined_shape_of_up_to_7_squares(self):
        for squares in grown_shapes(7):
            if plain_shape_answer(squares) > 0:
                self.check(squares)

    def test_of_shapes_of_8_to_12_squares(self):
        for squares in large_shapes(1500):
            if plain_shape_answer(squares) > 0:
                self.check(squares)

    def test_of_each_shape_in_a_window(self):
        for squares in window_shapes(3, 4):
            if plain_shape_answer(squares) > 0:
                self.check(squares)


if __name__ == "__main__":
    unittest.main()
