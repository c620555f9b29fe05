import unittest

from tests.helper import (BAR, CORNER, CUP, CUTS, CUT, DOMINO, RING, SQUARE, ask, covers_by_some_grid, cuts_of, edge_of,
                          grown_shapes, large_shapes, plain_cuts, plain_shape_answer, shape, triples, window_shapes)

KNOWN = ((SQUARE, [(0, 1, 1), (1, 1, 1)]),
         (DOMINO, [(0, 1, 1), (0, 2, 1), (1, 1, 1), (2, 1, 1), (2, 1, 2)]),
         (CORNER, [(1, 1, 1), (2, 1, 2), (3, 2, 1)]))


class KnownCuts(unittest.TestCase):
    def test_at_the_beginning_those_of_the_one_square(self):
        self.assertEqual(ask(CUT, CUTS), [[0, 1, 1], [2, 0, 1, 1, 1, 1, 1]])

    def test_of_small_shapes(self):
        for squares, cuts in KNOWN:
            self.assertEqual(ask(shape(squares), CUTS)[1], [len(cuts)] + [number for cut in cuts for number in cut])

    def test_the_first(self):
        for squares, cuts in KNOWN:
            self.assertEqual(ask(shape(squares), CUT)[1], list(cuts[0]))

    def test_the_third_part_empty_and_not(self):
        thirds = [len(edge_of(BAR)) // 2 - a - b for i, a, b in cuts_of(BAR)]
        self.assertIn(0, thirds)
        self.assertGreater(max(thirds), 0)
        self.assertTrue(all(len(edge_of(CORNER)) // 2 > a + b for i, a, b in cuts_of(CORNER)))

    def test_none(self):
        self.assertEqual(ask(shape(CUP), CUT, CUTS), [[12], [-3], [0]])
        gap = [(x, 0) for x in range(5)] + [(0, 1), (4, 1)]
        self.assertEqual(ask(shape(gap), CUT, CUTS)[1:], [[-3], [0]])

    def test_none_of_twelve_squares(self):
        comb = [(x, 0) for x in range(7)] + [(x, 1) for x in range(0, 7, 2)] + [(0, 2)]
        self.assertEqual(ask(shape(comb), CUT, CUTS), [[26], [-3], [0]])

    def test_of_a_bar_of_twelve(self):
        bar = [(x, 0) for x in range(12)]
        answers = ask(shape(bar), CUT, CUTS)
        self.assertEqual(answers[1], [0, 1, 11])
        self.assertEqual(triples(answers[2]), plain_cuts([0] * 12 + [1] + [2] * 12 + [3]))

    def test_a_refused_shape_leaves_the_cuts(self):
        self.assertEqual(ask(shape(CUP), shape(RING), CUT, CUTS), [[12], [-6], [-3], [0]])
        self.assertEqual(ask(shape(CORNER), shape(RING), CUT), [[8], [-6], [1, 1, 1]])

    def test_asking_for_cuts_changes_nothing(self):
        told = ask(shape(CORNER), CUTS, CUT, CUTS, CUT)
        self.assertEqual(told[1:3], told[3:5])


class EveryCut(unittest.TestCase):
    def check(self, squares):
        first, told = ask(shape(squares), CUT, CUTS)[1:]
        cuts = triples(told)
        self.assertEqual(told[0], len(cuts), squares)
        self.assertEqual(cuts, plain_cuts(edge_of(squares)), squares)
        self.assertEqual(cuts, sorted(set(cuts)), squares)
        self.assertEqual(first, list(cuts[0]) if cuts else [-3], squares)
        self.assertEqual(len(cuts) > 0, covers_by_some_grid(squares), squares)

    def test_of_each_joined_shape_of_up_to_7_squares(self):
        for squares in grown_shapes(7):
            if plain_shape_answer(squares) > 0:
                self.check(squares)

    def test_of_shapes_of_8_to_12_squares(self):
        for squares in large_shapes(500):
            if plain_shape_answer(squares) > 0:
                self.check(squares)

    def test_of_each_shape_in_a_window(self):
        for squares in window_shapes(3, 4):
            if plain_shape_answer(squares) > 0:
                self.check(squares)


if __name__ == "__main__":
    unittest.main()
