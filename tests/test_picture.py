import unittest

from asking import LOOK, ask, last, mix, numbers_behind, picture, put


class TestPicture(unittest.TestCase):
    def test_sizes_that_fit(self):
        for w, h in [(1, 1), (12, 1), (1, 12), (12, 12), (3, 2)]:
            with self.subTest(w=w, h=h):
                self.assertEqual(ask(picture(w, h, range(1, w * h + 1)), LOOK), [[0], [0, 1, w * h]])

    def test_sizes_that_do_not_fit(self):
        for w, h in [(0, 0), (0, 1), (1, 0), (13, 1), (1, 13), (13, 12), (12, 13), (1000000000, 1000000000)]:
            with self.subTest(w=w, h=h):
                count = min(w * h, 160)
                self.assertEqual(ask(picture(w, h, [5] * count), LOOK), [[-1], [0, 0, 0]])

    def test_too_few_and_too_many_numbers(self):
        for w, h in [(1, 1), (3, 2), (12, 12)]:
            for count in [0, w * h - 1, w * h + 1, 160]:
                with self.subTest(w=w, h=h, count=count):
                    self.assertEqual(ask(picture(w, h, [5] * count), LOOK), [[-1], [0, 0, 0]])

    def test_numbers_at_their_bounds(self):
        self.assertEqual(ask(picture(2, 1, [-65536, 65536]), LOOK), [[0], [0, -65536, 65536]])

    def test_numbers_beyond_their_bounds(self):
        for number in [-65537, 65537, -1000000000, 1000000000]:
            for numbers in [[number, 0, 0], [0, number, 0], [0, 0, number]]:
                with self.subTest(numbers=numbers):
                    self.assertEqual(ask(picture(3, 1, numbers), LOOK), [[-1], [0, 0, 0]])

    def test_rows_stand_one_below_another(self):
        numbers = [1, -2, 3, 4, 5, -6]
        self.assertEqual(numbers_behind([picture(3, 2, numbers)], 3, 2), numbers)
        self.assertEqual(numbers_behind([picture(2, 3, numbers)], 2, 3), numbers)

    def test_a_new_picture_takes_the_place_of_the_old(self):
        calls = [picture(3, 1, [7, 8, 9]), picture(1, 2, [4, 6])]
        self.assertEqual(numbers_behind(calls, 1, 2), [4, 6])

    def test_a_refused_picture_leaves_the_old(self):
        for wrong in [picture(13, 1, [1] * 13), picture(3, 1, [1, 1]), picture(3, 1, [1, 1, 65537])]:
            with self.subTest(wrong=wrong):
                calls = [picture(3, 1, [7, 8, 9]), wrong]
                self.assertEqual(last(*calls), [-1])
                self.assertEqual(numbers_behind(calls, 3, 1), [7, 8, 9])

    def test_the_picture_put_aside_stays(self):
        calls = [picture(2, 1, [3, 4]), put(), picture(2, 1, [10, 20])]
        self.assertEqual(numbers_behind(calls, 2, 1), [10, 20])
        self.assertEqual(numbers_behind(calls + [mix(0, 1)], 2, 1), [3, 4])

    def test_the_picture_put_aside_stays_behind_a_refusal(self):
        calls = [picture(2, 1, [3, 4]), put(), picture(2, 1, [10, 20]), picture(2, 1, [1])]
        self.assertEqual(numbers_behind(calls + [mix(0, 1)], 2, 1), [3, 4])

    def test_the_beginning(self):
        self.assertEqual(ask(LOOK), [[0, 0, 0]])
        self.assertEqual(ask(mix(5, 7)), [[0, 0, 0]])
        self.assertEqual(ask(picture(1, 1, [9]), mix(1, 1), mix(0, 1)), [[0], [0, 9, 9], [0, 0, 0]])
        self.assertEqual(ask(picture(2, 1, [9, 9]), mix(1, 1)), [[0], [-4]])
        self.assertEqual(ask(picture(1, 2, [9, 9]), mix(1, 1)), [[0], [-4]])
