import builtins
import contextlib
import io
import unittest
from unittest import mock

from onecover.shapes import answers
from tests.helper import BAR, CORNER, CUP, CUT, CUTS, EDGE, RING, SQUARE, TOP, ask, moves, raw_shape, shape, split

CALLS = (shape(CORNER), EDGE, CUT, CUTS, moves(1, 1, 1), moves(0, 0, 0), shape(RING), raw_shape([1]), EDGE, shape(CUP),
         CUT, CUTS, moves(TOP, 1, 1), shape(BAR), CUT, EDGE, raw_shape([]), moves(3, 1, 3), shape(SQUARE), CUTS)
TOLD = [1, 8, 9, 8, 0, 0, 1, 2, 1, 2, 3, 3, 3, 1, 1, 1, 10, 3, 1, 1, 1, 2, 1, 2, 3, 2, 1, 4, 1, 1, -1, 2, 1, -3, 1, -6,
        1, -1, 9, 8, 0, 0, 1, 2, 1, 2, 3, 3, 1, 12, 1, -3, 1, 0, 1, -3, 1, 8, 3, 0, 1, 2, 9, 8, 0, 0, 0, 1, 2, 2, 2, 3,
        1, -1, 4, -3, 1, -3, 0, 1, 4, 7, 2, 0, 1, 1, 1, 1, 1]


def joined(calls):
    return [number for call in calls for number in call]


class Unchanging(list):
    """A list that may be read only."""

    def refuse(self, *args, **named):
        raise AssertionError("the list that was handed in is changed")

    append = extend = insert = pop = remove = clear = sort = reverse = refuse
    __setitem__ = __delitem__ = __iadd__ = __imul__ = refuse


class OneList(unittest.TestCase):
    def test_one_call(self):
        for call, told in ((EDGE, [5, 4, 0, 1, 2, 3]), (CUT, [3, 0, 1, 1]), (CUTS, [7, 2, 0, 1, 1, 1, 1, 1]),
                           (moves(0, 1, 1), [4, 1, 1, 0, 1]), (moves(0, 0, 0), [1, -3]), (shape(CUP), [1, 12]),
                           (raw_shape([]), [1, -1]), (shape(RING), [1, -6])):
            self.assertEqual(answers(list(call)), told)

    def test_twenty_calls(self):
        self.assertEqual(len(CALLS), 20)
        self.assertEqual(answers(joined(CALLS)), TOLD)

    def test_twenty_of_the_longest_shapes(self):
        long = raw_shape([number for x in range(15) for number in (x % 12, x // 12)])
        bar = shape([(x, 0) for x in range(12)])
        self.assertEqual(answers(joined([long] * 20)), [1, -1] * 20)
        self.assertEqual(answers(joined([bar] * 20)), [1, 26] * 20)

    def test_twenty_times_all_cuts(self):
        bar = shape([(x, 0) for x in range(12)])
        found = ask(bar, *[CUTS] * 19)
        self.assertEqual(found[1:], [found[1]] * 19)

    def test_calls_in_another_order(self):
        shapes = (shape(CORNER), shape(CUP), shape(BAR))
        questions = (EDGE, CUT, CUTS, moves(1, 1, 1))
        for one in shapes:
            for other in questions:
                for third in questions:
                    found = ask(other, one, third, other)
                    self.assertEqual(found, ask(other) + ask(one, third) + ask(one, other)[1:])

    def test_numbers_of_a_call_are_not_taken_for_calls(self):
        self.assertEqual(ask(moves(4, 4, 4), moves(0, 0, 0), shape([(1, 2), (2, 2)]), moves(1, 2, 3), EDGE),
                         [[-3], [-3], [6], [-3], [6, 0, 0, 1, 2, 2, 3]])

    def test_whole_numbers_alone_in_a_list(self):
        told = answers(joined(CALLS))
        self.assertIs(type(told), list)
        self.assertEqual({type(number) for number in told}, {int})


class NothingElse(unittest.TestCase):
    def test_what_is_handed_in_is_the_same_afterwards(self):
        calls = joined(CALLS)
        answers(calls)
        self.assertEqual(calls, joined(CALLS))

    def test_what_is_handed_in_is_not_changed_for_a_while_either(self):
        self.assertEqual(answers(Unchanging(joined(CALLS))), TOLD)

    def test_nothing_is_kept_from_one_time_to_the_next(self):
        calls = joined(CALLS)
        first = answers(calls)
        second = answers(calls)
        self.assertIsNot(first, second)
        first.clear()
        self.assertEqual(second, TOLD)
        self.assertEqual(answers(calls), TOLD)
        answers(shape(CUP))
        self.assertEqual(answers(list(EDGE)), [5, 4, 0, 1, 2, 3])

    def test_nothing_is_printed_read_or_imported(self):
        shown = io.StringIO()
        forbidden = mock.Mock(side_effect=AssertionError("printed, read or imported"))
        calls = joined(CALLS)
        with contextlib.ExitStack() as stack:
            stack.enter_context(contextlib.redirect_stdout(shown))
            stack.enter_context(contextlib.redirect_stderr(shown))
            for name in ("print", "open", "input", "__import__"):
                stack.enter_context(mock.patch.object(builtins, name, forbidden))
            told = answers(calls)
        self.assertEqual(split(told), split(TOLD))
        self.assertEqual(shown.getvalue(), "")


if __name__ == "__main__":
    unittest.main()
