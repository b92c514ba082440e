import unittest

from asking import FAR, Asked, far_picture, last, numbers_behind, weigh

LINE = [1, 2, 4]
SIX = [1, 2, 3, 4, 5, 6]


def only(columns, rows, column, row):
    weights = [0] * (columns * rows)
    weights[row * columns + column] = 1
    return weights


class TestWeigh(Asked):
    def test_a_neighbour_each_side(self):
        for outside, wanted in enumerate([[12, 124, 240], [112, 124, 244], [112, 124, 244], [412, 124, 241]]):
            self.assert_changed(3, 1, LINE, weigh(outside, 3, 1, [100, 10, 1]), wanted)
            self.assert_changed(1, 3, LINE, weigh(outside, 1, 3, [100, 10, 1]), wanted)

    def test_two_away_ahead(self):
        for outside, wanted in enumerate([[0, 0, 1], [1, 1, 1], [2, 1, 1], [2, 4, 1]]):
            self.assert_changed(3, 1, LINE, weigh(outside, 5, 1, [1, 0, 0, 0, 0]), wanted)
            self.assert_changed(1, 3, LINE, weigh(outside, 1, 5, [1, 0, 0, 0, 0]), wanted)

    def test_two_away_behind(self):
        for outside, wanted in enumerate([[4, 0, 0], [4, 4, 4], [4, 4, 2], [4, 1, 2]]):
            self.assert_changed(3, 1, LINE, weigh(outside, 5, 1, [0, 0, 0, 0, 1]), wanted)
            self.assert_changed(1, 3, LINE, weigh(outside, 1, 5, [0, 0, 0, 0, 1]), wanted)

    def test_each_way_its_own_weight(self):
        weights = [1, 2, 3, 4, 5, 6, 7, 8, 9]
        self.assert_changed(2, 2, [1, 2, 3, 4], weigh(0, 3, 3, weights), [77, 67, 47, 37])

    def test_unlike_weights_lie_across_and_down(self):
        self.assert_changed(3, 2, SIX, weigh(3, 5, 3, only(5, 3, 0, 2)), [5, 6, 4, 2, 3, 1])
        self.assert_changed(3, 2, SIX, weigh(0, 3, 5, only(3, 5, 2, 1)), [0, 0, 0, 2, 3, 0])
        self.assert_changed(3, 2, SIX, weigh(1, 1, 3, [1, 0, 10]), [41, 52, 63, 41, 52, 63])
        self.assert_changed(3, 2, SIX, weigh(1, 3, 1, [1, 0, 10]), [21, 31, 32, 54, 64, 65])

    def test_column_and_row_are_outside_each_for_itself(self):
        corner = only(3, 3, 0, 0)
        wanted = [[0, 0, 0, 0, 1, 2], [1, 1, 2, 1, 1, 2], [1, 1, 2, 1, 1, 2], [6, 4, 5, 3, 1, 2]]
        for outside in range(4):
            self.assert_changed(3, 2, SIX, weigh(outside, 3, 3, corner), wanted[outside])

    def test_one_cell_stands_for_all_outside(self):
        for outside, wanted in enumerate([7, 175, 175, 175]):
            self.assert_changed(1, 1, [7], weigh(outside, 5, 5, [1] * 25), [wanted])

    def test_two_cells_outside_more_than_once_over(self):
        weights = [1, 2, 3, 4, 5]
        for outside, wanted in enumerate([[43, 32], [96, 123], [105, 78], [69, 96]]):
            self.assert_changed(2, 1, [1, 10], weigh(outside, 5, 1, weights), wanted)
            self.assert_changed(1, 2, [1, 10], weigh(outside, 1, 5, weights), wanted)

    def test_one_weight(self):
        self.assert_changed(3, 2, SIX, weigh(0, 1, 1, [-3]), [-3, -6, -9, -12, -15, -18])

    def test_all_sizes_of_weights_are_taken(self):
        for columns in [1, 3, 5]:
            for rows in [1, 3, 5]:
                weights = only(columns, rows, (columns - 1) // 2, (rows - 1) // 2)
                self.assert_changed(3, 2, SIX, weigh(2, columns, rows, weights), SIX)

    def test_weights_at_their_bounds(self):
        self.assert_changed(3, 1, LINE, weigh(0, 3, 1, [-1000, 0, 1000]), [2000, 3000, -2000])


class TestWeighRefused(Asked):
    def test_outside(self):
        for outside in [4, 5, 1000000000]:
            self.assert_refused(-2, weigh(outside, 1, 1, [1]))

    def test_sizes(self):
        for size in [0, 2, 4, 6, 7, 9]:
            self.assert_refused(-3, weigh(0, size, 1, [1] * size))
            self.assert_refused(-3, weigh(0, 1, size, [1] * size))
        self.assert_refused(-3, weigh(0, 1000000000, 1000000000, []))

    def test_too_few_and_too_many_numbers(self):
        for columns, rows in [(1, 1), (3, 1), (1, 5), (5, 3), (5, 5)]:
            for count in [0, columns * rows - 1, columns * rows + 1, 60]:
                self.assert_refused(-3, weigh(0, columns, rows, [1] * count))

    def test_numbers_beyond_their_bounds(self):
        for number in [-1001, 1001, -1000000000, 1000000000]:
            for at in range(3):
                weights = [0, 0, 0]
                weights[at] = number
                self.assert_refused(-3, weigh(0, 3, 1, weights))
                self.assert_refused(-3, weigh(0, 1, 3, weights))

    def test_of_several_the_one_told_first(self):
        self.assert_refused(-2, weigh(4, 2, 1, [1, 1]))
        self.assert_refused(-2, weigh(4, 1, 1, []))
        self.assert_refused(-2, weigh(4, 1, 1, [1001]))
        far = far_picture([0], 1)
        self.assertEqual(last(*far, weigh(4, 1, 1, [2])), [-2])
        self.assertEqual(last(*far, weigh(4, 1, 1, [1001])), [-2])
        self.assertEqual(last(*far, weigh(0, 1, 1, [1001])), [-3])


class TestWeighTooFar(unittest.TestCase):
    def test_just_within(self):
        for sign in [1, -1]:
            calls = far_picture([0, 0], sign, 0) + [weigh(0, 3, 1, [1, 1, 0])]
            self.assertEqual(last(*calls), [0] + sorted([sign * FAR, sign * FAR]))
            self.assertEqual(numbers_behind(calls, 2, 1), [sign * FAR, sign * FAR])

    def test_just_beyond(self):
        for sign in [1, -1]:
            far = far_picture([0, sign], sign, 0)
            calls = far + [weigh(0, 3, 1, [1, 1, 0])]
            self.assertEqual(last(*calls), [-9])
            self.assertEqual(numbers_behind(calls, 2, 1), [sign * FAR, sign])

    def test_only_the_sum_counts(self):
        calls = far_picture([0, 0], 1, 1) + [weigh(3, 3, 1, [1000, 0, -1000])]
        self.assertEqual(last(*calls), [0, 0, 0])
