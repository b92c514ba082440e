import unittest

from asking import Asked, ask, both, by, last, now, picture, undo

SIZES = [(a, b) for a in (1, 3, 5) for b in (1, 3, 5)]
WRONG_SIZES = [(0, 1), (1, 0), (0, 0), (2, 1), (1, 2), (2, 2), (4, 1), (1, 4), (3, 2), (4, 5), (6, 1), (1, 6), (7, 1),
               (1, 7), (9, 1), (1, 9), (6, 6), (7, 7), (0, 1000000000), (1000000000, 0)]


def numbers_of(columns, rows, seed):
    return [(seed * k * k + 17 * k + 5) % 2001 - 1000 for k in range(columns * rows)]


def both_by_the_words(a, b, k, c, d, m):
    found = []
    for j in range(b + d - 1):
        for i in range(a + c - 1):
            found.append(sum(k[v * a + u] * m[(j - v) * c + i - u] for v in range(b) for u in range(a)
                             if 0 <= i - u < c and 0 <= j - v < d))
    return found


class TestBoth(unittest.TestCase):
    def test_lines(self):
        self.assertEqual(ask(both(3, 1, [1, 2, 3], 3, 1, [1, 10, 100])), [[0, 5, 1, 1, 12, 123, 230, 300]])
        self.assertEqual(ask(both(1, 3, [1, 2, 3], 1, 3, [1, 10, 100])), [[0, 1, 5, 1, 12, 123, 230, 300]])
        self.assertEqual(ask(both(3, 1, [1, 2, 3], 5, 1, [1, 0, 0, 0, -1])), [[0, 7, 1, 1, 2, 3, 0, -1, -2, -3]])

    def test_a_row_and_a_column(self):
        wanted = [0, 3, 3, 1, 2, 3, 10, 20, 30, 100, 200, 300]
        self.assertEqual(ask(both(3, 1, [1, 2, 3], 1, 3, [1, 10, 100])), [wanted])
        self.assertEqual(ask(both(1, 3, [1, 10, 100], 3, 1, [1, 2, 3])), [wanted])

    def test_one_number(self):
        self.assertEqual(ask(both(1, 1, [-3], 1, 1, [7])), [[0, 1, 1, -21]])
        self.assertEqual(ask(both(1, 1, [-2], 3, 1, [1, 2, 3])), [[0, 3, 1, -2, -4, -6]])
        self.assertEqual(ask(both(1, 5, [1, 2, 3, 4, 5], 1, 1, [-2])), [[0, 1, 5, -2, -4, -6, -8, -10]])

    def test_three_by_three(self):
        k = [1, 0, 0, 0, 0, 0, 0, 2, 0]
        m = [1, 2, 3, 4, 5, 6, 7, 8, 9]
        wanted = [1, 2, 3, 0, 0,
                  4, 5, 6, 0, 0,
                  7, 10, 13, 6, 0,
                  0, 8, 10, 12, 0,
                  0, 14, 16, 18, 0]
        self.assertEqual(ask(both(3, 3, k, 3, 3, m), both(3, 3, m, 3, 3, k)), [[0, 5, 5] + wanted] * 2)

    def test_all_sizes_each_way(self):
        for a, b in SIZES:
            k = numbers_of(a, b, 31)
            for c, d in SIZES:
                m = numbers_of(c, d, 7)
                wanted = [0, a + c - 1, b + d - 1] + both_by_the_words(a, b, k, c, d, m)
                with self.subTest(a=a, b=b, c=c, d=d):
                    self.assertEqual(ask(both(a, b, k, c, d, m), both(c, d, m, a, b, k)), [wanted, wanted])

    def test_numbers_at_their_bounds(self):
        self.assertEqual(last(both(1, 1, [1000], 1, 1, [-1000])), [0, 1, 1, -1000000])
        self.assertEqual(last(both(1, 1, [-1000], 1, 1, [1000])), [0, 1, 1, -1000000])
        self.assertEqual(max(last(both(5, 5, [1000] * 25, 5, 5, [1000] * 25))), 25000000)
        self.assertEqual(last(both(5, 5, [0] * 25, 5, 5, [0] * 25)), [0, 9, 9] + [0] * 81)

    def test_the_picture_stays(self):
        calls = [picture(2, 1, [3, 4]), by(1, 1), both(1, 1, [5], 1, 1, [6]), now(), undo(), now()]
        self.assertEqual(ask(*calls)[2:], [[0, 1, 1, 30], [0, 2, 1, 4, 5], [0, 0], [0, 2, 1, 3, 4]])


class TestBothRefused(Asked):
    def test_sizes_of_the_first(self):
        for columns, rows in WRONG_SIZES:
            numbers = [1] * (columns * rows)
            self.assert_refused(-3, both(columns, rows, numbers, 1, 1, [1]))
            self.assert_refused(-3, both(columns, rows, numbers, 3, 3, [1] * 9))
        self.assert_refused(-3, both(59, 2, [1] * 118, 0, 0, []))
        self.assert_refused(-3, both(117, 1, [1] * 117, 1, 1, [1]))

    def test_sizes_of_the_second(self):
        for columns, rows in WRONG_SIZES + [(1000000000, 1000000000)]:
            numbers = [1] * (columns * rows if columns * rows < 60 else 0)
            self.assert_refused(-3, both(1, 1, [1], columns, rows, numbers))
            self.assert_refused(-3, both(3, 3, [1] * 9, columns, rows, numbers))

    def test_too_few_and_too_many_numbers_of_the_second(self):
        for columns, rows in SIZES:
            for count in [0, columns * rows - 1, columns * rows + 1, 60]:
                self.assert_refused(-3, both(3, 1, [1] * 3, columns, rows, [1] * count))
                self.assert_refused(-3, both(5, 5, [1] * 25, columns, rows, [1] * count))

    def test_numbers_beyond_their_bounds(self):
        good = [-1000, 0, 1000]
        self.assertEqual(last(both(3, 1, good, 1, 3, good))[:3], [0, 3, 3])
        for number in [-1001, 1001, -1000000000, 1000000000]:
            for at in range(3):
                numbers = list(good)
                numbers[at] = number
                self.assert_refused(-3, both(3, 1, numbers, 1, 3, good))
                self.assert_refused(-3, both(3, 1, good, 1, 3, numbers))
                self.assert_refused(-3, both(1, 3, numbers, 3, 1, numbers))

    def test_both_wrong_at_once(self):
        self.assert_refused(-3, both(2, 1, [1, 1], 2, 1, [1, 1]))
        self.assert_refused(-3, both(2, 1, [1, 1], 0, 0, []))
        self.assert_refused(-3, both(0, 0, [], 0, 0, []))

    def test_a_rest_that_is_too_short(self):
        for rest in [[], [1, 1], [1, 1, 1], [1, 1, 1, 1], [1, 1, 1, 1, 1]]:
            self.assert_refused(-3, [10, 3, 1, len(rest)] + rest)
        self.assert_refused(-3, [10, 1000000000, 1000000000, 2, 1, 1])
