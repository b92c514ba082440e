import unittest

from asking import FAR, LOOK, ask, by, far_picture, last, mix, numbers_behind, picture, put, weigh


class TestPutAndMix(unittest.TestCase):
    def test_put_answers_0_and_leaves_the_picture(self):
        calls = [picture(2, 1, [3, 4]), put()]
        self.assertEqual(ask(*calls), [[0], [0]])
        self.assertEqual(numbers_behind(calls, 2, 1), [3, 4])

    def test_mixed_cell_by_cell(self):
        calls = [picture(2, 2, [1, 2, 3, 4]), put(), picture(2, 2, [10, 30, 20, -40]), mix(2, -3)]
        self.assertEqual(ask(*calls), [[0], [0], [0], [0, -92, 54]])
        self.assertEqual(numbers_behind(calls, 2, 2), [17, 54, 31, -92])

    def test_put_aside_as_it_was_when_it_was_put(self):
        calls = [picture(2, 1, [3, 4]), put(), by(1, 5), weigh(0, 1, 1, [7]), mix(0, 1)]
        self.assertEqual(numbers_behind(calls, 2, 1), [3, 4])

    def test_a_changed_picture_is_put_as_it_is(self):
        calls = [picture(2, 1, [3, 4]), by(1, 5), put(), by(1, 100), mix(0, 1)]
        self.assertEqual(numbers_behind(calls, 2, 1), [8, 9])

    def test_put_again_instead_of_the_one_that_was(self):
        calls = [picture(2, 1, [3, 4]), put(), by(1, 5), put(), mix(1, 1)]
        self.assertEqual(numbers_behind(calls, 2, 1), [16, 18])

    def test_mix_leaves_the_one_put_aside(self):
        calls = [picture(2, 1, [3, 4]), put(), mix(1, 1), mix(1, 1), mix(0, 1)]
        self.assertEqual(ask(*calls)[2:], [[0, 6, 8], [0, 9, 12], [0, 3, 4]])

    def test_mix_as_it_begins(self):
        self.assertEqual(ask(put(), mix(1, 1)), [[0], [0, 0, 0]])

    def test_bounds_of_a_and_b(self):
        far = [picture(2, 1, [1, -2]), put(), picture(2, 1, [5, 7])]
        self.assertEqual(numbers_behind(far + [mix(1000, -1000)], 2, 1), [4000, 9000])
        self.assertEqual(numbers_behind(far + [mix(-1000, 1000)], 2, 1), [-4000, -9000])

    def test_beyond_the_bounds_of_a_and_b(self):
        before = [picture(2, 1, [1, -2]), put(), picture(2, 1, [5, 7])]
        for a, b in [(1001, 0), (-1001, 0), (0, 1001), (0, -1001), (1000000000, 0), (0, -1000000000)]:
            with self.subTest(a=a, b=b):
                self.assertEqual(last(*before, mix(a, b)), [-3])
                self.assertEqual(numbers_behind(before + [mix(a, b)], 2, 1), [5, 7])
                self.assertEqual(numbers_behind(before + [mix(a, b), mix(0, 1)], 2, 1), [1, -2])

    def test_sizes_that_are_not_the_same(self):
        for w, h in [(2, 3), (6, 1), (3, 1), (1, 2), (3, 3), (1, 1)]:
            before = [picture(3, 2, [1, 2, 3, 4, 5, 6]), put(), picture(w, h, range(1, w * h + 1))]
            with self.subTest(w=w, h=h):
                self.assertEqual(ask(*before, mix(1, 1), LOOK)[3:], [[-4], [0, 1, w * h]])

    def test_both_faults_at_once(self):
        before = [picture(2, 1, [1, 2])]
        self.assertEqual(last(*before, mix(1001, 0)), [-3])
        self.assertEqual(last(*before, mix(0, -1001)), [-3])
        self.assertEqual(last(*before, mix(1000, -1000)), [-4])
        self.assertEqual(last(*far_picture([0], 1), mix(1001, 0)), [-3])


class TestMixTooFar(unittest.TestCase):
    def test_just_within_and_just_beyond(self):
        for sign in [1, -1]:
            far = far_picture([sign, 0], 0, sign)
            self.assertEqual(last(*far, mix(1, 1)), [0] + sorted([2 * sign, sign * FAR]))
            far = far_picture([0, sign], 0, sign)[:-1]
            self.assertEqual(last(*far, mix(1, 0)), [0] + sorted([0, sign * FAR]))
            calls = far + [mix(1, 1)]
            self.assertEqual(last(*calls), [-9])
            self.assertEqual(numbers_behind(calls, 2, 1), [0, sign * FAR])
            self.assertEqual(numbers_behind(calls + [mix(0, 1)], 2, 1), [0, sign])

    def test_only_the_sum_counts(self):
        far = far_picture([0, 0], 1, -1)
        self.assertEqual(last(*far, put(), mix(1000, -1000)), [0, 0, 0])
        self.assertEqual(last(*far, put(), mix(1000, -999)), [0, -FAR, FAR])
        self.assertEqual(last(*far, put(), mix(1000, -998)), [-9])
