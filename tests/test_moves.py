import itertools
import unittest

from tests.helper import (BAR, CORNER, CUP, DOMINO, EDGE, RING, SQUARE, TOP, ask, covers_by_moves, cuts_of, edge_of,
                          end_of, grown_shapes, moves, plain_shape_answer, shape)


class KnownMoves(unittest.TestCase):
    def test_at_the_beginning_those_of_the_one_square(self):
        self.assertEqual(ask(moves(0, 1, 1), moves(1, 1, 1)), [[1, 1, 0, 1], [-1, 1, -1, 0]])

    def test_of_a_domino(self):
        told = ask(shape(DOMINO), moves(0, 1, 1), moves(0, 2, 1), moves(1, 1, 1), moves(2, 1, 1), moves(2, 1, 2))
        self.assertEqual(told[1:], [[2, 0, 1, 1], [2, 1, 0, 1], [1, 1, -1, 1], [-1, 1, -2, 0], [-2, 1, -2, 0]])

    def test_with_numbers_below_0(self):
        told = ask(shape(CORNER), moves(1, 1, 1), moves(2, 1, 2), moves(3, 2, 1))
        self.assertEqual(told[1:], [[1, 1, -1, 2], [-1, 2, -2, 1], [-2, 1, -1, -1]])

    def test_a_move_that_begins_like_a_refusal(self):
        self.assertEqual(ask(shape(BAR), moves(3, 1, 3))[1], [-3, 1, -3, 0])

    def test_of_twelve_squares(self):
        bar = [(x, 0) for x in range(12)]
        self.assertEqual(ask(shape(bar), moves(0, 12, 1), moves(12, 1, 12))[1:], [[12, 1, 0, 1], [-12, 1, -12, 0]])


class NoSuchCut(unittest.TestCase):
    def refused(self, squares, i, a, b):
        told = ask(shape(squares), moves(i, a, b), EDGE)
        self.assertEqual(told[1], [-3], (squares, i, a, b))
        self.assertEqual(told[2][1:], edge_of(squares))

    def test_with_a_or_b_of_0(self):
        for i in range(2):
            for a, b in ((0, 0), (0, 1), (0, 2), (1, 0), (2, 0)):
                self.refused(SQUARE, i, a, b)

    def test_a_cut_whose_third_part_alone_would_be_left(self):
        for i, a, b in itertools.product(range(3), (0,), range(4)):
            self.refused(DOMINO, i, a, b)
            self.refused(DOMINO, i, b, a)

    def test_i_of_0_where_no_cut_begins(self):
        for a, b in itertools.product(range(5), range(5)):
            self.refused(CORNER, 0, a, b)

    def test_at_half_of_the_steps_and_beyond(self):
        for i in (2, 3, 4, 5, 6, 8):
            self.refused(SQUARE, i, 1, 1)
        for a, b in ((2, 1), (1, 2), (2, 2), (3, 1), (4, 4)):
            self.refused(SQUARE, 0, a, b)
        self.refused(DOMINO, 3, 1, 1)
        self.refused(DOMINO, 3, 2, 1)
        self.refused(DOMINO, 0, 3, 1)
        self.refused(DOMINO, 0, 2, 2)
        self.refused(CORNER, 5, 1, 1)

    def test_the_greatest_numbers(self):
        for i, a, b in itertools.product((0, 1, TOP), (1, 2, TOP), (1, 2, TOP)):
            if TOP in (i, a, b):
                self.refused(DOMINO, i, a, b)
                self.refused(CUP, i, a, b)

    def test_where_there_is_no_cut_at_all(self):
        for i, a, b in itertools.product(range(7), range(8), range(8)):
            self.assertEqual(ask(shape(CUP), moves(i, a, b)), [[12], [-3]])

    def test_behind_a_refused_shape_the_cuts_are_those_of_the_old_one(self):
        self.assertEqual(ask(shape(RING), moves(1, 1, 1), moves(2, 1, 2)), [[-6], [-1, 1, -1, 0], [-3]])


class EveryMove(unittest.TestCase):
    def test_of_each_joined_shape_of_up_to_6_squares(self):
        for squares in grown_shapes(6):
            if plain_shape_answer(squares) > 0:
                self.check(squares)

    def check(self, squares):
        edge = edge_of(squares)
        half = len(edge) // 2
        for i, a, b in cuts_of(squares):
            steps = (edge + edge)[i:]
            told = ask(shape(squares), moves(i, a, b))[1]
            self.assertEqual(told, end_of(steps[:a + b]) + end_of(steps[a:half]), (squares, i, a, b))
            self.assertTrue(covers_by_moves(squares, told), (squares, i, a, b))

    def test_an_answer_for_each_cut_and_for_no_other(self):
        for squares in grown_shapes(5):
            half = len(edge_of(squares)) // 2
            cuts = cuts_of(squares)
            for i, a, b in itertools.product(range(half + 1), repeat=3):
                told = ask(shape(squares), moves(i, a, b))[1]
                self.assertEqual(len(told), 4 if (i, a, b) in cuts else 1, (squares, i, a, b))


if __name__ == "__main__":
    unittest.main()
