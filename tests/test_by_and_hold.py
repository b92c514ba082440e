from asking import FAR, Asked, by, far_picture, hold, last, numbers_behind, picture, weigh

HALVES = [-5, -4, -3, -2, -1, 0, 1, 2, 3, 4, 5]


class TestBy(Asked):
    def test_halves_go_to_the_greater(self):
        self.assert_changed(11, 1, HALVES, by(2, 0), [-2, -2, -1, -1, 0, 0, 1, 1, 2, 2, 3])
        self.assert_changed(4, 1, [-15, -5, 5, 15], by(10, 0), [-1, 0, 1, 2])

    def test_the_nearest(self):
        self.assert_changed(11, 1, HALVES, by(3, 0), [-2, -1, -1, -1, 0, 0, 0, 1, 1, 1, 2])
        self.assert_changed(8, 1, [-16, -14, -6, -4, 4, 6, 14, 16], by(10, 0), [-2, -1, -1, 0, 0, 1, 1, 2])

    def test_o_is_added_behind(self):
        self.assert_changed(2, 1, [-3, 3], by(2, 1), [0, 3])
        self.assert_changed(2, 1, [-3, 3], by(2, -1), [-2, 1])

    def test_bounds_of_d(self):
        self.assert_changed(2, 1, [-7, 7], by(1, 0), [-7, 7])
        self.assert_changed(2, 1, [-65536, 65536], by(1000000, 0), [0, 0])
        half = [picture(4, 1, [-501, -500, 499, 500]), weigh(0, 1, 1, [1000]), by(1000000, 0)]
        self.assertEqual(numbers_behind(half, 4, 1), [-1, 0, 0, 1])

    def test_bounds_of_o(self):
        self.assert_changed(2, 1, [-1, 1], by(1, 65536), [65535, 65537])
        self.assert_changed(2, 1, [-1, 1], by(1, -65536), [-65537, -65535])

    def test_refused(self):
        wrong = [by(0, 0), by(-1, 0), by(1000001, 0), by(1000000000, 0), by(-1000000000, 0),
                 by(1, 65537), by(1, -65537), by(1, 1000000000), by(1, -1000000000), by(0, 65537)]
        for call in wrong:
            self.assert_refused(-3, call)

    def test_just_within_and_just_beyond(self):
        for sign in [1, -1]:
            far = far_picture([-sign, 0], sign, 0)
            self.assertEqual(last(*far, by(1, sign)), [0] + sorted([sign, sign * FAR]))
            calls = far + [by(1, 2 * sign)]
            self.assertEqual(last(*calls), [-9])
            self.assertEqual(numbers_behind(calls, 2, 1), [sign * FAR - sign, 0])

    def test_of_several_the_one_told_first(self):
        self.assertEqual(last(*far_picture([0], 1), by(1, 65537)), [-3])
        self.assertEqual(last(*far_picture([0], 1), by(1, 65536)), [-9])


class TestHold(Asked):
    def test_below_between_and_above(self):
        self.assert_changed(7, 1, [-9, -3, -2, 0, 4, 5, 9], hold(-3, 4), [-3, -3, -2, 0, 4, 4, 4])
        self.assert_changed(3, 1, [-9, 0, 9], hold(1, 2), [1, 1, 2])
        self.assert_changed(3, 1, [-9, 0, 9], hold(-2, -1), [-2, -1, -1])

    def test_both_the_same(self):
        self.assert_changed(3, 1, [-9, 0, 9], hold(3, 3), [3, 3, 3])
        self.assert_changed(3, 1, [-9, 0, 9], hold(1000000000, 1000000000), [1000000000] * 3)
        self.assert_changed(3, 1, [-9, 0, 9], hold(-1000000000, -1000000000), [-1000000000] * 3)

    def test_nothing_to_hold(self):
        self.assert_changed(3, 1, [-9, 0, 9], hold(-1000000000, 1000000000), [-9, 0, 9])

    def test_refused(self):
        for call in [hold(1, 0), hold(0, -1), hold(-4, -5), hold(1000000000, -1000000000)]:
            self.assert_refused(-3, call)

    # No number held can be too far from 0: hold brings each within its own bounds.
    def test_numbers_far_from_0(self):
        far = far_picture([0, 0], 1, -1)
        self.assertEqual(last(*far, hold(-1000000000, 1000000000)), [0, -1000000000, 1000000000])
        self.assertEqual(last(*far, hold(1, 0)), [-3])
