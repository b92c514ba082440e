from asking import FAR, Asked, far_picture, last, numbers_behind, picture, rank

NINE = [9, 1, 8, 2, 7, 3, 6, 4, 5]
LINE = [5, 1, 3]


class TestRank(Asked):
    def test_each_rank_of_nine(self):
        for n in range(9):
            self.assert_changed(3, 3, NINE, rank(3, 1, n), [n + 1] * 9)

    def test_nothing_outside_is_0(self):
        for n, wanted in [(0, -5), (1, 0), (7, 0), (8, 4)]:
            self.assert_changed(2, 1, [-5, 4], rank(0, 1, n), [wanted] * 2)
        for n, wanted in [(0, 0), (12, 0), (21, 0), (22, 1), (23, 3), (24, 5)]:
            self.assert_changed(3, 1, LINE, rank(0, 2, n), [wanted] * 3)
            self.assert_changed(1, 3, LINE, rank(0, 2, n), [wanted] * 3)

    def test_reaching_1_sees_no_further(self):
        self.assert_changed(3, 1, LINE, rank(0, 1, 8), [5, 5, 3])
        self.assert_changed(1, 3, LINE, rank(0, 1, 8), [5, 5, 3])
        self.assert_changed(3, 3, NINE, rank(0, 1, 8), [9, 9, 8, 9, 9, 8, 7, 7, 7])

    def test_each_outside_reaching_2(self):
        rows = [
            (1, 4, [1, 1, 1]), (1, 9, [3, 3, 3]), (1, 10, [5, 3, 3]), (1, 15, [5, 5, 3]),
            (2, 9, [1, 3, 1]), (2, 12, [3, 3, 3]), (2, 15, [5, 5, 3]), (2, 10, [3, 3, 3]),
            (3, 9, [1, 3, 1]), (3, 15, [3, 5, 5]), (3, 10, [3, 3, 3]),
        ]
        for outside, n, wanted in rows:
            self.assert_changed(3, 1, LINE, rank(outside, 2, n), wanted)
            self.assert_changed(1, 3, LINE, rank(outside, 2, n), wanted)

    def test_the_corner_of_nine(self):
        for outside in [1, 2]:
            for n, wanted in [(0, 1), (1, 1), (2, 2), (3, 2), (4, 7), (5, 9), (8, 9)]:
                calls = [picture(3, 3, NINE), rank(outside, 1, n)]
                self.assertEqual(numbers_behind(calls, 3, 3)[0], wanted)

    def test_alike_numbers_are_counted_each(self):
        self.assert_changed(3, 1, [4, 4, 1], rank(3, 1, 2), [1] * 3)
        self.assert_changed(3, 1, [4, 4, 1], rank(3, 1, 3), [4] * 3)
        self.assert_changed(1, 1, [6], rank(1, 2, 24), [6])
        self.assert_changed(1, 1, [6], rank(0, 2, 24), [6])
        self.assert_changed(1, 1, [6], rank(0, 2, 23), [0])

    def test_numbers_far_from_0(self):
        self.assertEqual(last(*far_picture([0, 0], 1, -1), rank(3, 2, 24)), [0, FAR, FAR])
        self.assertEqual(last(*far_picture([0, 0], 1, -1), rank(3, 2, 0)), [0, -FAR, -FAR])


class TestRankRefused(Asked):
    def test_outside(self):
        for outside in [4, 1000000000]:
            self.assert_refused(-2, rank(outside, 1, 0))

    def test_reach(self):
        for r in [0, 3, 1000000000]:
            self.assert_refused(-3, rank(0, r, 0))

    def test_place(self):
        for r, n in [(1, 9), (1, 24), (2, 25), (1, 1000000000), (2, 1000000000)]:
            self.assert_refused(-3, rank(0, r, n))

    def test_of_several_the_one_told_first(self):
        self.assert_refused(-2, rank(4, 0, 0))
        self.assert_refused(-2, rank(4, 3, 0))
        self.assert_refused(-2, rank(4, 1, 9))
