import itertools
import math
import unittest

from asking import Asked, ask, by, last, now, part, picture, undo

SIZES = [(a, b) for a in (1, 3, 5) for b in (1, 3, 5)]


class TestPart(unittest.TestCase):
    def assert_parted(self, numbers, row, column):
        columns, rows = len(row), len(column)
        with self.subTest(columns=columns, rows=rows, numbers=numbers):
            self.assertEqual(ask(part(columns, rows, numbers)), [[0, 1] + row + column])

    def assert_not_parted(self, columns, rows, numbers):
        with self.subTest(columns=columns, rows=rows, numbers=numbers):
            self.assertEqual(ask(part(columns, rows, numbers)), [[0, 0]])

    def test_all_0(self):
        for columns, rows in SIZES:
            self.assert_parted([0] * (columns * rows), [0] * columns, [0] * rows)

    def test_softer(self):
        self.assert_parted([1, 2, 1, 2, 4, 2, 1, 2, 1], [1, 2, 1], [1, 2, 1])

    def test_divided_by_the_greatest_common_divisor(self):
        self.assert_parted([4, 6, 10, 6, 9, 15, 2, 3, 5], [2, 3, 5], [2, 3, 1])
        self.assert_parted([0, 6, 9, 0, 2, 3, 0, 4, 6], [0, 2, 3], [3, 1, 2])
        self.assert_parted([6, 10, 15], [6, 10, 15], [1])
        self.assert_parted([1000, 0, -1000], [1, 0, -1], [1000])

    def test_a_first_row_of_0s(self):
        self.assert_parted([0, 0, 0, 2, 4, 6, 1, 2, 3], [1, 2, 3], [0, 2, 1])
        self.assert_parted([0, 0, 0, 0, 0, 0, 5, 0, -10], [1, 0, -2], [0, 0, 5])
        self.assert_parted([0, 0, 0, 0, -7], [-1], [0, 0, 0, 0, 7])

    def test_rows_that_are_0_times(self):
        self.assert_parted([3, 6, 9, 0, 0, 0, 2, 4, 6], [1, 2, 3], [3, 0, 2])
        self.assert_parted([3, 6, 9, 0, 0, 0, 0, 0, 0], [1, 2, 3], [3, 0, 0])

    def test_negative_numbers(self):
        self.assert_parted([-2, 4, -6, 1, -2, 3, -1, 2, -3], [-1, 2, -3], [2, -1, 1])
        self.assert_parted([2, -4, 6, -3, 6, -9, 0, 0, 0], [1, -2, 3], [2, -3, 0])
        self.assert_parted([-1, 0, 1, -2, 0, 2, -1, 0, 1], [-1, 0, 1], [1, 2, 1])
        self.assert_parted([-4, -6, -8], [-2, -3, -4], [2])

    def test_one_row_one_column_one_number(self):
        self.assert_parted([6, 9, 0], [2, 3, 0], [3])
        self.assert_parted([4, 6, -2], [1], [4, 6, -2])
        self.assert_parted([-4, 6, 2], [-1], [4, -6, -2])
        self.assert_parted([0, 6, 2, 0, -1], [1], [0, 6, 2, 0, -1])
        for number, row, column in [(5, 1, 5), (-5, -1, 5), (1, 1, 1), (-1, -1, 1), (0, 0, 0), (1000, 1, 1000),
                                    (-1000, -1, 1000)]:
            self.assert_parted([number], [row], [column])

    def test_five_columns_and_three_rows(self):
        row, column = [3, 0, -7, 2, 1], [4, 0, -9]
        self.assert_parted([x * y for y in column for x in row], row, column)
        row, column = [3, 0, -7], [4, 0, -9, 1, 2]
        self.assert_parted([x * y for y in column for x in row], row, column)

    def test_a_row_that_is_not_a_whole_number_of_times(self):
        self.assert_not_parted(3, 3, [2, 3, 0, 1, 1, 0, 0, 0, 0])
        self.assert_not_parted(3, 3, [2, 3, 5, 4, 6, 11, 0, 0, 0])
        self.assert_not_parted(3, 3, [2, 3, 5, 4, 6, 10, 3, 6, 9])
        self.assert_not_parted(3, 3, [-2, 3, 5, 1, -1, -2, 0, 0, 0])

    def test_what_cannot_be_parted(self):
        self.assert_not_parted(3, 3, [1, 0, 0, 0, 1, 0, 0, 0, 1])
        self.assert_not_parted(3, 3, [0, -1, 0, -1, 5, -1, 0, -1, 0])
        self.assert_not_parted(3, 3, [1, 1, 1, 1, -8, 1, 1, 1, 1])
        self.assert_not_parted(3, 3, [0, 1, 0, 1, 1, 0, 0, 0, 0])
        self.assert_not_parted(3, 3, [1, 1, 1, 0, 0, 0, 0, 0, 1])
        self.assert_not_parted(3, 3, [0, 0, 0, 1, 2, 3, 1, 2, -3])
        self.assert_not_parted(5, 5, [1] * 24 + [2])
        self.assert_not_parted(3, 5, [1, 2, 3] * 4 + [1, 2, 4])
        self.assert_not_parted(5, 3, [1, 2, 3, 4, 5] * 2 + [1, 2, 3, 4, 6])

    def test_the_picture_stays(self):
        calls = [picture(2, 1, [3, 4]), by(1, 1), part(1, 1, [5]), now(), undo(), now()]
        self.assertEqual(ask(*calls)[2:], [[0, 1, 1, 5], [0, 2, 1, 4, 5], [0, 0], [0, 2, 1, 3, 4]])


def crosswise_alike(rows):
    """Another way to tell what can be parted: in any two rows and two columns both crosswise products are alike."""
    return all(p[i] * q[j] == p[j] * q[i] for p, q in itertools.combinations(rows, 2)
               for i, j in itertools.combinations(range(len(p)), 2))


class TestAllSmallOnes(unittest.TestCase):
    def assert_as_told(self, rows, answered):
        if not crosswise_alike(rows):
            self.assertEqual(answered, [0, 0], rows)
            return
        width = len(rows[0])
        row, column = answered[2:2 + width], answered[2 + width:]
        self.assertEqual(answered[:2], [0, 1], rows)
        self.assertEqual([[x * y for x in row] for y in column], rows)
        others = [y for y in column if y != 0]
        if any(map(any, rows)):
            self.assertEqual(math.gcd(*row), 1, rows)
            self.assertGreater(others[0], 0, rows)
        else:
            self.assertEqual(answered, [0, 1] + [0] * (width + len(rows)), rows)

    def assert_all_as_told(self, columns, rows, numbers):
        every = list(itertools.product(numbers, repeat=columns * rows))
        for start in range(0, len(every), 40):
            several = every[start:start + 40]
            answered = ask(*[part(columns, rows, weights) for weights in several])
            for weights, told in zip(several, answered, strict=True):
                lines = [list(weights[at:at + columns]) for at in range(0, len(weights), columns)]
                self.assert_as_told(lines, told)

    def test_three_by_three(self):
        self.assert_all_as_told(3, 3, [-1, 0, 2])

    def test_lines(self):
        self.assert_all_as_told(3, 1, range(-6, 7))
        self.assert_all_as_told(1, 3, range(-6, 7))


class TestPartRefused(Asked):
    def test_sizes(self):
        for size in [0, 2, 4, 6, 7, 9]:
            for other in [1, 3, 5]:
                self.assert_refused(-3, part(size, other, [1] * (size * other)))
                self.assert_refused(-3, part(other, size, [1] * (size * other)))
        self.assert_refused(-3, part(0, 0, []))
        self.assert_refused(-3, part(1000000000, 1000000000, []))

    def test_too_few_and_too_many_numbers(self):
        for columns, rows in SIZES:
            for count in [0, columns * rows - 1, columns * rows + 1, 60]:
                self.assert_refused(-3, part(columns, rows, [1] * count))

    def test_numbers_at_and_beyond_their_bounds(self):
        self.assertEqual(last(part(3, 1, [-1000, 0, 1000])), [0, 1, -1, 0, 1, 1000])
        for number in [-1001, 1001, -1000000000, 1000000000]:
            for at in range(3):
                numbers = [-1000, 0, 1000]
                numbers[at] = number
                self.assert_refused(-3, part(3, 1, numbers))
                self.assert_refused(-3, part(1, 3, numbers))
