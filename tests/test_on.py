import itertools
import unittest

from tests.helper import (BAR, CORNER, CUP, DOMINO, EDGE, GRIDS, RING, TOP, ask, covering_shapes, grids_of, is_move,
                          laid_copies, moved, on, raw_shape, shape, taken_shapes)

PLACES = (0, 1, 2, 11, 12, 499, 500, 998, 999, 1000)
TOO_FAR = (1001, 1002, 65536, 2147483648, TOP)


class KnownPlaces(unittest.TestCase):
    def test_at_the_beginning_by_the_one_square(self):
        for x, y in itertools.product(PLACES, PLACES):
            self.assertEqual(ask(on(0, x, y)), [[0, x, y]])

    def test_of_a_domino_by_both_grids(self):
        told = ask(shape(DOMINO), on(0, 0, 0), on(0, 1, 0), on(0, 2, 0), on(0, 3, 1), on(1, 0, 0), on(1, 0, 1),
                   on(1, 1, 1), on(1, 5, 1), on(1, 5, 2))
        self.assertEqual(told[1:], [[0, 0, 0], [1, 0, 0], [0, 2, 0], [1, 2, 1], [0, 0, 0], [1, -1, 1], [0, 1, 1],
                                    [0, 5, 1], [1, 4, 2]])

    def test_of_a_corner(self):
        told = ask(shape(CORNER), on(0, 0, 0), on(0, 1, 0), on(0, 2, 0), on(0, 0, 1), on(0, 1, 1), on(0, 1000, 1000))
        self.assertEqual(told[1:], [[0, 0, 0], [1, 0, 0], [2, 2, -1], [2, 0, 0], [0, 1, 1], [0, 1000, 1000]])

    def test_on_the_shape_itself_by_no_move(self):
        for squares in (DOMINO, CORNER, BAR, moved(CORNER, 10, 10), moved(BAR, 9, 11)):
            for n in range(len(grids_of(squares))):
                for number, (x, y) in enumerate(squares):
                    self.assertEqual(ask(shape(squares), on(n, x, y))[1], [number, 0, 0])

    def test_moves_to_the_left_and_down(self):
        self.assertEqual(ask(shape([(11, 11)]), on(0, 0, 0), on(0, 11, 0), on(0, 0, 11), on(0, 12, 1000))[1:],
                         [[0, -11, -11], [0, 0, -11], [0, -11, 0], [0, 1, 989]])

    def test_squares_are_numbered_in_the_order_in_which_they_are_told(self):
        for squares in itertools.permutations(CORNER):
            for x, y in itertools.product(range(4), range(4)):
                number, right, up = ask(shape(CORNER), on(0, x, y))[1]
                self.assertEqual(ask(shape(squares), on(0, x, y))[1], [squares.index(CORNER[number]), right, up])

    def test_behind_a_refused_shape_by_the_old_one(self):
        self.assertEqual(ask(shape(CORNER), shape(RING), on(0, 1, 0), raw_shape([9]), on(0, 2, 0)),
                         [[8], [-6], [1, 0, 0], [-1], [2, 2, -1]])


class EveryPlace(unittest.TestCase):
    def check(self, squares, n, grid, x, y, told):
        where = (squares, n, x, y)
        self.assertEqual(len(told), 3, where)
        number, right, up = told
        self.assertIn(number, range(len(squares)), where)
        self.assertEqual((squares[number][0] + right, squares[number][1] + up), (x, y), where)
        self.assertTrue(is_move(grid, (0, 0), (right, up)), where)

    def check_places(self, squares, places):
        for n, grid in enumerate(grids_of(squares)):
            for x in places:
                told = ask(shape(squares), *[on(n, x, y) for y in places])[1:]
                for y, answer in zip(places, told):
                    self.check(squares, n, grid, x, y, answer)

    def test_of_each_shape_of_up_to_5_squares_and_some_of_8_to_12(self):
        for squares in taken_shapes(5, 150):
            self.check_places(squares, PLACES)

    def test_of_shapes_grown_on_a_grid(self):
        below = set()
        for squares, grid in covering_shapes(96):
            self.check_places(squares, (0, 1, 5, 500, 1000))
            n = grids_of(squares).index(grid)
            number, right, up = ask(shape(squares), on(n, 0, 0))[1]
            below.add((right < 0, up < 0))
        self.assertEqual(len(below), 4)

    def test_as_the_copies_lie_when_they_are_laid_down(self):
        for squares, grid in covering_shapes(36):
            for n, told in enumerate(grids_of(squares)):
                for left, low in ((0, 0), (0, 994), (994, 0), (994, 994)):
                    copies = laid_copies(squares, told, left, low, 7)
                    for x in range(left, left + 7):
                        answers = ask(shape(squares), *[on(n, x, y) for y in range(low, low + 7)])[1:]
                        self.assertEqual(answers, [copies[x, y][0] for y in range(low, low + 7)], (squares, n, x))


class Refused(unittest.TestCase):
    def refuses(self, squares, call, number):
        told = ask(shape(squares), EDGE, GRIDS, call, EDGE, GRIDS, call)
        self.assertEqual(told[3], [number], (squares, call))
        self.assertEqual(told[1:4], told[4:7], (squares, call))

    def test_x_or_y_above_1000(self):
        for squares in (DOMINO, CORNER, BAR):
            for far in TOO_FAR:
                for near in (0, 500, 1000):
                    self.refuses(squares, on(0, far, near), -1)
                    self.refuses(squares, on(0, near, far), -1)
                self.refuses(squares, on(0, far, far), -1)

    def test_at_1000_not_yet(self):
        self.assertEqual(ask(on(0, 1000, 1000), on(0, 1001, 1000), on(0, 1000, 1001)), [[0, 1000, 1000], [-1], [-1]])

    def test_no_grid_n(self):
        for squares in (DOMINO, CORNER, BAR, [(x, 0) for x in range(12)]):
            count = len(grids_of(squares))
            self.assertEqual(len(ask(shape(squares), on(count - 1, 3, 4))[1]), 3)
            for n in (count, count + 1, 2 * count + 3, 1000, 2147483648, TOP):
                for x, y in ((0, 0), (1000, 1000), (3, 4)):
                    self.refuses(squares, on(n, x, y), -2)

    def test_no_grid_n_at_the_beginning(self):
        self.assertEqual(ask(on(0, 7, 7), on(1, 7, 7), on(TOP, 7, 7)), [[0, 7, 7], [-2], [-2]])

    def test_a_shape_without_a_grid(self):
        for n in (0, 1, TOP):
            for x, y in ((0, 0), (1000, 1000)):
                self.refuses(CUP, on(n, x, y), -2)

    def test_the_refusal_told_first(self):
        for squares in (DOMINO, CORNER, CUP):
            for n in (len(grids_of(squares)), 1000, TOP):
                for far in TOO_FAR:
                    self.refuses(squares, on(n, far, 0), -1)
                    self.refuses(squares, on(n, 0, far), -1)
                    self.refuses(squares, on(n, far, far), -1)


if __name__ == "__main__":
    unittest.main()
