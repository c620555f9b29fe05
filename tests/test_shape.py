import itertools
import unittest

from tests.helper import (BAR, CORNER, CUP, DOMINO, EDGE, RING, SQUARE, TOP, ask, grown_shapes, large_shapes,
                          moved, plain_shape_answer, raw_shape, shape, window_shapes)

CORNER_EDGE = [8, 0, 0, 1, 2, 1, 2, 3, 3]


class Taken(unittest.TestCase):
    def test_how_many_steps(self):
        for squares, steps in ((SQUARE, 4), (DOMINO, 6), (BAR, 8), (CORNER, 8), (CUP, 12)):
            self.assertEqual(ask(shape(squares)), [[steps]])

    def test_bars_of_1_to_12_squares(self):
        for count in range(1, 13):
            flat = [(x, 11) for x in range(count)]
            upright = [(11, y) for y in range(count)]
            self.assertEqual(ask(shape(flat), shape(upright)), [[2 * count + 2], [2 * count + 2]])

    def test_twelve_squares(self):
        block = [(x, y) for x in range(8, 12) for y in range(9, 12)]
        comb = [(x, 0) for x in range(7)] + [(x, 1) for x in range(0, 7, 2)] + [(0, 2)]
        stair = [(k // 2, (k + 1) // 2) for k in range(12)]
        self.assertEqual(ask(shape(block), shape(comb), shape(stair)), [[14], [26], [26]])

    def test_at_each_corner_of_the_room(self):
        for x, y in itertools.product((0, 11), (0, 11)):
            self.assertEqual(ask(shape([(x, y)])), [[4]])

    def test_told_in_any_order(self):
        for squares in itertools.permutations(CUP):
            self.assertEqual(ask(shape(squares)), [[12]])

    def test_a_bay_that_is_open_at_a_side_is_no_hole(self):
        self.assertEqual(ask(shape([square for square in RING if square != (1, 2)])), [[16]])

    def test_takes_the_place_of_the_shape_before(self):
        self.assertEqual(ask(shape(CUP), shape(CORNER), EDGE), [[12], [8], CORNER_EDGE])


class Refused(unittest.TestCase):
    def refuses(self, call, number):
        self.assertEqual(ask(call), [[number]])
        self.assertEqual(ask(call, EDGE), [[number], [4, 0, 1, 2, 3]])
        self.assertEqual(ask(shape(CORNER), call, EDGE, call, EDGE),
                         [[8], [number], CORNER_EDGE, [number], CORNER_EDGE])

    def test_a_number_left_over(self):
        for numbers in ([0], [11], [0, 0, 1], [0, 0, 1, 0, 2], [0] * 29):
            self.refuses(raw_shape(numbers), -1)
        self.refuses(raw_shape([number for x in range(12) for number in (x, 0)] + [0]), -1)
        self.refuses(raw_shape([number for x in range(11) for number in (x, 0)] + [11]), -1)

    def test_a_column_or_row_above_11(self):
        for number in (12, 13, 100, 65536, 2147483648, TOP):
            self.refuses(shape([(number, 0)]), -1)
            self.refuses(shape([(0, number)]), -1)
        self.refuses(shape([(11, 0), (12, 0)]), -1)
        self.refuses(shape([(0, 12), (0, 11)]), -1)
        self.refuses(shape([(TOP, TOP)]), -1)

    def test_no_square(self):
        self.refuses(raw_shape([]), -1)

    def test_more_than_twelve(self):
        block = [(x, y) for x in range(5) for y in range(3)]
        for count in (13, 14, 15):
            self.refuses(shape(block[:count]), -1)
        self.assertEqual(ask(shape(block[:12])), [[14]])

    def test_a_square_told_twice(self):
        self.refuses(shape([(0, 0), (0, 0)]), -1)
        self.refuses(shape([(3, 4), (3, 5), (4, 5), (3, 4)]), -1)
        self.refuses(shape([(x, 0) for x in range(11)] + [(0, 0)]), -1)

    def test_not_joined(self):
        for squares in ([(0, 0), (2, 0)], [(0, 0), (0, 2)], [(0, 0), (11, 11)], BAR + [(4, 0)],
                        DOMINO + [(4, 4), (5, 4)]):
            self.refuses(shape(squares), -6)

    def test_touching_at_a_corner_alone(self):
        self.refuses(shape([(0, 0), (1, 1)]), -6)
        self.refuses(shape([(1, 0), (0, 1)]), -6)
        self.refuses(shape(BAR + [(3, 1), (4, 1)]), -6)

    def test_columns_and_rows_do_not_wrap(self):
        self.refuses(shape([(11, 0), (0, 1)]), -6)
        self.refuses(shape([(0, 0), (11, 0)]), -6)

    def test_a_hole(self):
        self.refuses(shape(RING), -6)
        self.refuses(shape(moved(RING, 9, 9)), -6)
        wide = [(x, y) for x in range(4) for y in range(3) if (x, y) not in ((1, 1), (2, 1))]
        self.refuses(shape(wide), -6)
        square_hole = [(x, y) for x in range(4) for y in range(4) if x in (0, 3) or y in (0, 3)]
        self.refuses(shape(square_hole), -6)

    def test_a_hole_that_touches_the_outside_at_a_corner_alone(self):
        for gone in ((0, 0), (2, 0), (0, 2), (2, 2)):
            self.refuses(shape([square for square in RING if square != gone]), -6)

    def test_the_refusal_told_first(self):
        for squares in ([(0, 0), (0, 0), (5, 5)], [(0, 0), (12, 0)], [(0, 0), (TOP, 5)], RING + [(0, 0)],
                        RING + [(12, 3)], RING + [(3, 0), (3, 1), (3, 2), (4, 0), (4, 1)],
                        [(x, 0) for x in range(11)] + [(0, 2), (0, 4)]):
            self.refuses(shape(squares), -1)
        self.refuses(raw_shape([0, 0, 5, 5, 1]), -1)
        self.refuses(raw_shape([number for square in RING for number in square] + [3]), -1)


class AllOfAWindow(unittest.TestCase):
    def test_each_choice_of_squares_of_a_window(self):
        for squares in window_shapes(4, 3):
            self.assertEqual(ask(shape(squares)), [[plain_shape_answer(squares)]], squares)

    def test_each_joined_shape_of_up_to_7_squares(self):
        holes = 0
        for squares in grown_shapes(7):
            told = moved(squares, 11 - max(x for x, y in squares), 11 - max(y for x, y in squares))
            steps = plain_shape_answer(squares)
            self.assertEqual(ask(shape(told)), [[steps]], told)
            holes += steps == -6
        self.assertEqual(holes, 4)

    def test_shapes_of_8_to_12_squares(self):
        for squares in large_shapes(1500):
            self.assertEqual(ask(shape(squares)), [[plain_shape_answer(squares)]], squares)


if __name__ == "__main__":
    unittest.main()
