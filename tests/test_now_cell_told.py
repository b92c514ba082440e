import unittest

from asking import FAR, ask, by, cell, far_picture, hold, last, mix, now, picture, put, rank, told, undo, weigh

SIX = [3, -1, 4, 1, -5, 9]
FIRST = [picture(3, 2, SIX), put()]
CHANGED = [
    (weigh(0, 3, 1, [1, 0, 0]), [0, 3, -1, 0, 1, -5]),
    (rank(3, 1, 8), [9, 9, 9, 9, 9, 9]),
    (by(2, 1), [3, 1, 3, 2, -1, 6]),
    (hold(-1, 4), [3, -1, 4, 1, -1, 4]),
    (mix(2, -1), SIX),
    (mix(1, 2), [9, -3, 12, 3, -15, 27]),
]


class TestSeen(unittest.TestCase):
    def assert_seen(self, calls, w, h, numbers):
        """now, told and each cell tell of this very picture, and leave it as it is."""
        with self.subTest(calls=calls):
            self.assertEqual(last(*calls, now()), [0, w, h] + numbers)
            self.assertEqual(last(*calls, told()), [0, min(numbers), max(numbers), sum(numbers)])
            for k, number in enumerate(numbers):
                self.assertEqual(last(*calls, cell(k % w, k // w)), [0, number])
            self.assertEqual(last(*calls, now(), told(), cell(0, 0), cell(w, h), now()), [0, w, h] + numbers)

    def test_at_the_beginning(self):
        self.assert_seen([], 1, 1, [0])

    def test_behind_a_picture(self):
        self.assert_seen(FIRST[:1], 3, 2, SIX)
        self.assert_seen([picture(2, 3, SIX)], 2, 3, SIX)
        self.assert_seen([picture(6, 1, SIX)], 6, 1, SIX)
        self.assert_seen([picture(1, 6, SIX)], 1, 6, SIX)
        self.assert_seen([picture(1, 1, [-65536])], 1, 1, [-65536])
        self.assert_seen([picture(12, 12, list(range(-9, 135)))], 12, 12, list(range(-9, 135)))

    def test_behind_another_picture(self):
        self.assert_seen(FIRST + [picture(2, 2, [5, 6, 7, 8])], 2, 2, [5, 6, 7, 8])

    def test_behind_put(self):
        self.assert_seen(FIRST, 3, 2, SIX)

    def test_behind_each_kind_of_change(self):
        for change, numbers in CHANGED:
            self.assert_seen(FIRST + [change], 3, 2, numbers)

    def test_behind_undo(self):
        for change, numbers in CHANGED:
            self.assert_seen(FIRST + [change, undo()], 3, 2, SIX)
            self.assert_seen(FIRST + [change, by(1, 1), undo()], 3, 2, numbers)
        self.assert_seen(FIRST + [undo()], 3, 2, SIX)

    def test_behind_a_refusal(self):
        for refused in [picture(3, 2, []), weigh(4, 1, 1, [2]), rank(0, 0, 0), by(0, 0), hold(1, 0), mix(1001, 0)]:
            self.assert_seen(FIRST + [refused], 3, 2, SIX)

    def test_the_picture_put_aside_is_not_told(self):
        self.assert_seen(FIRST + [by(1, 100)], 3, 2, [103, 99, 104, 101, 95, 109])


class TestFar(unittest.TestCase):
    def test_numbers_far_from_0(self):
        far = far_picture([0, 0], 1, -1)
        self.assertEqual(last(*far, now()), [0, 2, 1, FAR, -FAR])
        self.assertEqual(last(*far, cell(1, 0)), [0, -FAR])
        self.assertEqual(last(*far, told()), [0, -FAR, FAR, 0])

    def test_the_sum_has_no_bounds(self):
        for sign in [1, -1]:
            calls = [picture(12, 12, [sign * 1000] * 144)] + [weigh(0, 1, 1, [1000])] * 3
            self.assertEqual(last(*calls, told()), [0, sign * FAR, sign * FAR, sign * 144 * FAR])


class TestNoSuchCell(unittest.TestCase):
    def test_at_and_beyond_the_last(self):
        for w, h in [(1, 1), (3, 2), (2, 3), (6, 1), (1, 6), (12, 12)]:
            first = picture(w, h, range(w * h))
            inside = [(0, 0, 0), (w - 1, 0, w - 1), (0, h - 1, w * h - w), (w - 1, h - 1, w * h - 1)]
            for x, y, number in inside:
                self.assertEqual(last(first, cell(x, y)), [0, number])
            far = 1000000000
            outside = [(w, 0), (w, h - 1), (0, h), (w - 1, h), (w, h), (w + 1, 0), (0, h + 1), (far, 0), (0, far),
                       (far, far)]
            for x, y in outside:
                with self.subTest(w=w, h=h, x=x, y=y):
                    self.assertEqual(last(first, cell(x, y)), [-1])

    def test_at_the_beginning(self):
        self.assertEqual(ask(cell(0, 0), cell(1, 0), cell(0, 1)), [[0, 0], [-1], [-1]])

    def test_the_size_is_that_of_the_picture_now(self):
        calls = [picture(3, 1, [1, 2, 3]), picture(1, 3, [4, 5, 6]), cell(2, 0), cell(0, 2)]
        self.assertEqual(ask(*calls)[2:], [[-1], [0, 6]])
