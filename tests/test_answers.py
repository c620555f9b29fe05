import builtins
import contextlib
import io
import unittest
from unittest import mock

from onecover.shapes import answers
from tests.helper import (BAR, CORNER, CUP, CUT, CUTS, DOMINO, EDGE, GRIDS, RING, SQUARE, TILES, TOP, ask, gridof,
                          moves, next_seed, on, picked, raw_shape, shape, split)

CALLS = (shape(CORNER), EDGE, CUT, CUTS, moves(1, 1, 1), moves(0, 0, 0), shape(RING), raw_shape([1]), EDGE, shape(CUP),
         CUT, CUTS, moves(TOP, 1, 1), shape(BAR), CUT, EDGE, raw_shape([]), moves(3, 1, 3), shape(SQUARE), CUTS)
TOLD = [1, 8, 9, 8, 0, 0, 1, 2, 1, 2, 3, 3, 3, 1, 1, 1, 10, 3, 1, 1, 1, 2, 1, 2, 3, 2, 1, 4, 1, 1, -1, 2, 1, -3, 1, -6,
        1, -1, 9, 8, 0, 0, 1, 2, 1, 2, 3, 3, 1, 12, 1, -3, 1, 0, 1, -3, 1, 8, 3, 0, 1, 2, 9, 8, 0, 0, 0, 1, 2, 2, 2, 3,
        1, -1, 4, -3, 1, -3, 0, 1, 4, 7, 2, 0, 1, 1, 1, 1, 1]
NINE_CALLS = (TILES, GRIDS, on(0, 5, 6), gridof(1, 1, 1), shape(DOMINO), gridof(0, 1, 1), on(1, 0, 1), GRIDS, EDGE,
              on(2, 0, 0), on(2, 1001, 0), gridof(3, 1, 1), shape(RING), CUTS, moves(0, 1, 1), shape(CUP), TILES,
              GRIDS, CUT, on(0, 1000, 1000))
NINE_TOLD = [1, 1, 4, 1, 1, 0, 1, 3, 0, 5, 6, 1, 0, 1, 6, 1, 1, 3, 1, -1, 1, 7, 2, 2, 0, 1, 2, 1, 1, 7, 6, 0, 0, 1, 2,
             2, 3, 1, -2, 1, -1, 1, -3, 1, -6, 16, 5, 0, 1, 1, 0, 2, 1, 1, 1, 1, 2, 1, 1, 2, 1, 2, 4, 2, 0, 1, 1, 1, 12,
             1, 0, 1, 0, 1, -3, 1, -2]
SHAPES = (shape(SQUARE), shape(DOMINO), shape(CORNER), shape(BAR), shape(CUP), shape([(x, 0) for x in range(12)]),
          shape([(11, 9), (11, 10), (10, 10), (10, 11)]), shape([(3, 2), (2, 2), (2, 3), (3, 3)]))
REFUSED_SHAPES = (raw_shape([]), raw_shape([5]), shape(RING), shape([(0, 0), (2, 0)]), shape([(0, 0), (12, 0)]))
QUESTIONS = (EDGE, CUT, CUTS, moves(0, 1, 1), moves(1, 1, 1), moves(TOP, 1, 1), GRIDS, on(0, 0, 0), on(1, 3, 1000),
             on(0, 1001, 0), on(TOP, 7, 7), on(TOP, TOP, TOP), gridof(0, 1, 1), gridof(1, 1, 1), gridof(0, 0, 1), TILES)


def joined(calls):
    return [number for call in calls for number in call]


def mixed_lists(most):
    """Lists of 1 to 20 calls, the same at each run."""
    seed = 1
    lists = []
    for number in range(most):
        calls = []
        for k in range(1 + number % 20):
            seed = next_seed(seed)
            choices = picked(seed, (SHAPES, REFUSED_SHAPES, QUESTIONS, QUESTIONS, QUESTIONS))
            seed = next_seed(seed)
            calls.append(picked(seed, choices))
        lists.append(calls)
    return lists


def one_by_one(calls):
    """The answers when each question is asked alone behind the shape that was taken last."""
    now = shape(SQUARE)
    found = []
    for call in calls:
        found.append(ask(now, call)[1])
        if call in SHAPES:
            now = call
    return found


class Unchanging(list):
    """A list that may be read only."""

    def refuse(self, *args, **named):
        raise AssertionError("the list that was handed in is changed")

    append = extend = insert = pop = remove = clear = sort = reverse = refuse
    __setitem__ = __delitem__ = __iadd__ = __imul__ = refuse


class OneList(unittest.TestCase):
    def test_one_call(self):
        for call, told in ((EDGE, [5, 4, 0, 1, 2, 3]), (CUT, [3, 0, 1, 1]), (CUTS, [7, 2, 0, 1, 1, 1, 1, 1]),
                           (moves(0, 1, 1), [4, 1, 1, 0, 1]), (moves(0, 0, 0), [1, -3]), (shape(CUP), [1, 12]),
                           (raw_shape([]), [1, -1]), (shape(RING), [1, -6]), (GRIDS, [4, 1, 1, 0, 1]),
                           (on(0, 3, 4), [3, 0, 3, 4]), (on(0, 1001, 4), [1, -1]), (on(1, 3, 4), [1, -2]),
                           (gridof(0, 1, 1), [1, 0]), (gridof(2, 1, 1), [1, -3]), (TILES, [1, 1])):
            self.assertEqual(answers(list(call)), told)

    def test_twenty_calls(self):
        self.assertEqual(len(CALLS), 20)
        self.assertEqual(answers(joined(CALLS)), TOLD)

    def test_twenty_calls_all_nine_among_them(self):
        self.assertEqual(len(NINE_CALLS), 20)
        self.assertEqual({call[0] for call in NINE_CALLS}, set(range(9)))
        self.assertEqual(answers(joined(NINE_CALLS)), NINE_TOLD)

    def test_all_nine_calls_in_any_order(self):
        for calls in mixed_lists(400):
            self.assertEqual(ask(*calls), one_by_one(calls), calls)

    def test_behind_each_refusal_the_shape_is_the_one_it_was(self):
        for one in SHAPES:
            before = [answer for question in QUESTIONS for answer in ask(one, question)[1:]]
            for refused in REFUSED_SHAPES + (on(TOP, 0, 0), on(0, 1001, 0), gridof(0, 0, 0), moves(TOP, TOP, TOP)):
                found = ask(one, refused, *QUESTIONS, refused, EDGE)
                self.assertEqual(len(found[1]), 1)
                self.assertLess(found[1][0], 0)
                self.assertEqual(found[2:18], before)
                self.assertEqual(found[18:], [found[1], before[0]])

    def test_twenty_of_the_longest_shapes(self):
        long = raw_shape([number for x in range(15) for number in (x % 12, x // 12)])
        bar = shape([(x, 0) for x in range(12)])
        self.assertEqual(answers(joined([long] * 20)), [1, -1] * 20)
        self.assertEqual(answers(joined([bar] * 20)), [1, 26] * 20)

    def test_twenty_times_all_cuts(self):
        bar = shape([(x, 0) for x in range(12)])
        found = ask(bar, *[CUTS] * 19)
        self.assertEqual(found[1:], [found[1]] * 19)

    def test_calls_in_another_order(self):
        shapes = (shape(CORNER), shape(CUP), shape(BAR))
        questions = (EDGE, CUT, CUTS, moves(1, 1, 1), GRIDS, on(0, 2, 1), gridof(1, 1, 1), TILES)
        for one in shapes:
            for other in questions:
                for third in questions:
                    found = ask(other, one, third, other)
                    self.assertEqual(found, ask(other) + ask(one, third) + ask(one, other)[1:])

    def test_numbers_of_a_call_are_not_taken_for_calls(self):
        self.assertEqual(ask(moves(4, 4, 4), moves(0, 0, 0), shape([(1, 2), (2, 2)]), moves(1, 2, 3), EDGE),
                         [[-3], [-3], [6], [-3], [6, 0, 0, 1, 2, 2, 3]])
        self.assertEqual(ask(on(0, 6, 7), gridof(6, 7, 8), on(8, 0, 4), gridof(0, 5, 6), on(0, 0, 0), TILES),
                         [[0, 6, 7], [-3], [-2], [-3], [0, 0, 0], [1]])

    def test_whole_numbers_alone_in_a_list(self):
        for calls in (CALLS, NINE_CALLS):
            told = answers(joined(calls))
            self.assertIs(type(told), list)
            self.assertEqual({type(number) for number in told}, {int})


class NothingElse(unittest.TestCase):
    def test_what_is_handed_in_is_the_same_afterwards(self):
        for calls in [CALLS, NINE_CALLS] + mixed_lists(50):
            handed = joined(calls)
            answers(handed)
            self.assertEqual(handed, joined(calls))

    def test_what_is_handed_in_is_not_changed_for_a_while_either(self):
        self.assertEqual(answers(Unchanging(joined(CALLS))), TOLD)
        self.assertEqual(answers(Unchanging(joined(NINE_CALLS))), NINE_TOLD)

    def test_nothing_is_kept_from_one_time_to_the_next(self):
        for calls, told in ((joined(CALLS), TOLD), (joined(NINE_CALLS), NINE_TOLD)):
            first = answers(calls)
            second = answers(calls)
            self.assertIsNot(first, second)
            first.clear()
            self.assertEqual(second, told)
            self.assertEqual(answers(calls), told)
        answers(shape(CUP))
        self.assertEqual(answers(joined((EDGE, GRIDS, TILES))), [5, 4, 0, 1, 2, 3, 4, 1, 1, 0, 1, 1, 1])

    def test_a_second_time_with_the_same_list_gives_the_same(self):
        lists = [joined(calls) for calls in mixed_lists(50)]
        first = [answers(calls) for calls in lists]
        self.assertEqual([answers(calls) for calls in reversed(lists)], first[::-1])

    def test_nothing_is_printed_read_or_imported(self):
        shown = io.StringIO()
        forbidden = mock.Mock(side_effect=AssertionError("printed, read or imported"))
        found = []
        with contextlib.ExitStack() as stack:
            stack.enter_context(contextlib.redirect_stdout(shown))
            stack.enter_context(contextlib.redirect_stderr(shown))
            for name in ("print", "open", "input", "__import__"):
                stack.enter_context(mock.patch.object(builtins, name, forbidden))
            found.append(answers(joined(CALLS)))
            found.append(answers(joined(NINE_CALLS)))
        self.assertEqual(found, [TOLD, NINE_TOLD])
        self.assertEqual(shown.getvalue(), "")


if __name__ == "__main__":
    unittest.main()
