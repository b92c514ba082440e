import builtins
import contextlib
import io
import unittest
from unittest import mock

from asking import (
    LOOK, both, by, cell, hold, joined, mix, now, part, picture, put, rank, told, undo, weigh)
from neighboursdesk.picture import answers

SEVERAL = joined([
    picture(2, 2, [1, 2, 3, 4]), put(), weigh(4, 1, 1, [1]), weigh(0, 1, 3, [1, 1, 1]), picture(2, 2, [1]),
    mix(1, -1), mix(1001, 0), rank(0, 1, 8), rank(0, 3, 0), by(0, 1), by(3, 1), hold(2, 1), hold(3, 9),
    now(), undo(), told(), undo(), cell(1, 1), cell(2, 1), both(3, 1, [1, 2, 3], 1, 3, [1, 0, -1]),
    both(1, 1, [1], 2, 1, [1, 1]), part(3, 1, [2, 0, -4]), part(3, 3, [1, 0, 0, 0, 1, 0, 0, 0, 1]), part(1, 1, [1001]),
    picture(1, 2, []), undo(), picture(1, 2, [7, 8]), undo(), mix(1, 1), LOOK, undo(), now(),
])
ANSWERED = joined([
    [1, 0], [1, 0], [1, -2], [3, 0, 4, 6], [1, -1],
    [3, 0, 1, 4], [1, -3], [3, 0, 4, 4], [1, -3], [1, -3], [3, 0, 2, 2], [1, -3], [3, 0, 3, 3],
    [7, 0, 2, 2, 3, 3, 3, 3], [2, 0, 4], [4, 0, 2, 2, 8], [2, 0, 3], [2, 0, 4], [1, -1],
    [12, 0, 3, 3, 1, 2, 3, 0, 0, 0, -1, -2, -3],
    [1, -3], [6, 0, 1, 1, 0, -2, 2], [2, 0, 0], [1, -3],
    [1, -1], [2, 0, 2], [1, 0], [1, -4], [1, -4], [3, 0, 7, 8], [2, 0, 0], [5, 0, 1, 2, 7, 8],
])


class Fixed(list):
    """A list that fails as soon as anything would change it, even for a while."""

    def refuse(self, *given, **named):
        raise AssertionError("the list handed in was changed")

    append = extend = insert = pop = remove = clear = sort = reverse = refuse
    __setitem__ = __delitem__ = __iadd__ = __imul__ = refuse


class TestInterface(unittest.TestCase):
    def test_several_calls_refusals_among_them(self):
        self.assertEqual(answers(SEVERAL), ANSWERED)

    def test_a_list_of_whole_numbers_is_given_back(self):
        answered = answers(SEVERAL)
        self.assertIs(type(answered), list)
        self.assertEqual({type(number) for number in answered}, {int})

    def test_each_call_alone(self):
        self.assertEqual(answers([0, 2, 1, 2, -5, 5]), [1, 0])
        self.assertEqual(answers([1, 0, 3, 1, 3, 1, 1, 1]), [3, 0, 0, 0])
        self.assertEqual(answers([2, 0, 1, 4]), [3, 0, 0, 0])
        self.assertEqual(answers([3, 2, 5]), [3, 0, 5, 5])
        self.assertEqual(answers([4, -3, -2]), [3, 0, -2, -2])
        self.assertEqual(answers([5]), [1, 0])
        self.assertEqual(answers([6, 1, 1]), [3, 0, 0, 0])
        self.assertEqual(answers([7]), [1, -4])
        self.assertEqual(answers([8]), [4, 0, 1, 1, 0])
        self.assertEqual(answers([9, 0, 0]), [2, 0, 0])
        self.assertEqual(answers([9, 1, 0]), [1, -1])
        self.assertEqual(answers([10, 1, 1, 4, 2, 1, 1, 3]), [4, 0, 1, 1, 6])
        self.assertEqual(answers([10, 1, 3, 8, 1, 2, 3, 3, 1, 4, 5, 6]), [12, 0, 3, 3, 4, 5, 6, 8, 10, 12, 12, 15, 18])
        self.assertEqual(answers([11, 3, 1, 3, 2, 4, 6]), [6, 0, 1, 1, 2, 3, 2])
        self.assertEqual(answers([12]), [4, 0, 0, 0, 0])

    def test_refused_rows_are_read_to_their_end(self):
        self.assertEqual(answers([0, 1, 1, 3, 5, 5, 5, 3, 1, 4]), [1, -1, 3, 0, 4, 4])
        self.assertEqual(answers([0, 1, 1, 0, 3, 1, 4]), [1, -1, 3, 0, 4, 4])
        self.assertEqual(answers([1, 9, 1, 1, 3, 5, 5, 5, 3, 1, 4]), [1, -2, 3, 0, 4, 4])
        self.assertEqual(answers([1, 0, 1, 1, 0, 3, 1, 4]), [1, -3, 3, 0, 4, 4])
        self.assertEqual(answers([10, 0, 1, 2, 0, 0, 3, 1, 4]), [1, -3, 3, 0, 4, 4])
        self.assertEqual(answers([10, 2, 1, 5, 7, 7, 1, 1, 7, 3, 1, 4]), [1, -3, 3, 0, 4, 4])
        self.assertEqual(answers([10, 1, 1, 5, 7, 1, 1, 7, 7, 3, 1, 4]), [1, -3, 3, 0, 4, 4])
        self.assertEqual(answers([11, 1, 1, 3, 5, 5, 5, 3, 1, 4]), [1, -3, 3, 0, 4, 4])
        self.assertEqual(answers([11, 1, 1, 0, 3, 1, 4]), [1, -3, 3, 0, 4, 4])

    def test_forty_calls_of_the_longest(self):
        calls = picture(12, 12, [1] * 144) + joined([weigh(1, 5, 5, [0] * 12 + [1] + [0] * 12)] * 39)
        self.assertEqual(answers(calls), [1, 0] + [3, 0, 1, 1] * 39)
        numbers = list(range(144))
        self.assertEqual(answers(picture(12, 12, numbers) + now() * 39), [1, 0] + ([147, 0, 12, 12] + numbers) * 39)
        self.assertEqual(answers(picture(12, 12, numbers) * 40), [1, 0] * 40)
        self.assertEqual(answers([10, 118, 1, 120] + [0] * 120 + joined([part(1, 1, [9] * 60)] * 39)), [1, -3] * 40)

    def test_what_is_handed_in_is_not_changed(self):
        calls = list(SEVERAL)
        answers(calls)
        self.assertEqual(calls, SEVERAL)
        self.assertEqual(answers(Fixed(SEVERAL)), ANSWERED)

    def test_nothing_is_kept_from_one_time_to_the_next(self):
        self.assertEqual(answers(SEVERAL), answers(SEVERAL))
        answers(picture(2, 1, [3, 4]) + put())
        self.assertEqual(answers(LOOK), [3, 0, 0, 0])
        self.assertEqual(answers(mix(1, 1)), [3, 0, 0, 0])
        answers(picture(2, 1, [3, 4]) + by(1, 1) + by(1, 1))
        self.assertEqual(answers(undo() + now()), [1, -4, 4, 0, 1, 1, 0])

    def test_what_is_given_back_is_the_callers_own(self):
        answers(SEVERAL).append(5)
        answers(LOOK)[1] = 5
        self.assertEqual(answers(SEVERAL), ANSWERED)
        self.assertEqual(answers(LOOK), [3, 0, 0, 0])

    def test_it_prints_reads_and_imports_nothing(self):
        out = io.StringIO()
        refused = AssertionError("not asked for")
        with contextlib.redirect_stdout(out), contextlib.redirect_stderr(out), \
                mock.patch.object(builtins, "open", side_effect=refused), \
                mock.patch.object(builtins, "input", side_effect=refused), \
                mock.patch.object(builtins, "__import__", side_effect=refused):
            answered = answers(SEVERAL)
        self.assertEqual(answered, ANSWERED)
        self.assertEqual(out.getvalue(), "")
