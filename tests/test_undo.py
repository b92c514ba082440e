import unittest

from asking import (
    LOOK, ask, both, by, cell, far_picture, hold, last, mix, now, numbers_behind, part, picture, put, rank, told, undo,
    weigh)

STEP = by(1, 1)
CHANGES = [weigh(0, 1, 1, [2]), rank(0, 1, 8), by(4, 1), hold(0, 3), mix(2, 1)]
# Behind a picture of 3 by 1 with another size put aside.
REFUSED = [
    (picture(0, 1, []), -1), (picture(1, 1, []), -1), (picture(1, 1, [65537]), -1), (weigh(4, 1, 1, [1]), -2),
    (weigh(0, 2, 1, [1, 1]), -3), (rank(4, 1, 0), -2), (rank(0, 3, 0), -3), (by(0, 0), -3), (hold(1, 0), -3),
    (mix(1001, 0), -3), (mix(1, 1), -4), (cell(3, 0), -1), (both(1, 1, [1], 2, 1, [1, 1]), -3),
    (part(2, 1, [1, 1]), -3)]
NO_CHANGES = [put(), now(), cell(0, 0), cell(2, 0), both(1, 1, [2], 1, 1, [3]), part(1, 1, [2]), told()]


class TestUndo(unittest.TestCase):
    def test_nothing_to_be_undone_at_the_beginning(self):
        self.assertEqual(ask(undo(), undo(), now()), [[-4], [-4], [0, 1, 1, 0]])
        self.assertEqual(ask(put(), undo(), told()), [[0], [-4], [0, 0, 0, 0]])

    def test_nothing_to_be_undone_behind_a_picture(self):
        self.assertEqual(ask(picture(2, 1, [3, 4]), undo(), now()), [[0], [-4], [0, 2, 1, 3, 4]])
        calls = [picture(2, 1, [3, 4]), STEP, STEP, picture(1, 2, [5, 6]), undo(), now()]
        self.assertEqual(ask(*calls)[3:], [[0], [-4], [0, 1, 2, 5, 6]])
        calls = [STEP] * 17 + [picture(1, 1, [5]), undo(), STEP, undo(), undo(), now()]
        self.assertEqual(ask(*calls)[17:], [[0], [-4], [0, 6, 6], [0, 0], [-4], [0, 1, 1, 5]])

    def test_the_beginning_comes_back(self):
        self.assertEqual(ask(STEP, undo(), now(), undo()), [[0, 1, 1], [0, 0], [0, 1, 1, 0], [-4]])

    def test_each_kind_of_change(self):
        for change in CHANGES:
            before = [picture(2, 1, [8, -5]), put(), change]
            with self.subTest(change=change):
                self.assertNotEqual(numbers_behind(before, 2, 1), [8, -5])
                self.assertEqual(ask(*before, undo(), now(), undo())[3:], [[0, 0], [0, 2, 1, 8, -5], [-4]])

    def test_one_change_behind_another(self):
        before = [picture(2, 1, [8, -5]), put()] + CHANGES
        ahead = [numbers_behind(before[:length], 2, 1) for length in range(2, 7)]
        self.assertEqual(ahead, [[8, -5], [16, -10], [16, 16], [5, 5], [3, 3]])
        for times in range(1, 6):
            self.assertEqual(last(*before, *[undo()] * times), [0, 5 - times])
            self.assertEqual(numbers_behind(before + [undo()] * times, 2, 1), ahead[-times])
        self.assertEqual(last(*before, *[undo()] * 6), [-4])

    def test_a_change_that_leaves_all_numbers_is_one_too(self):
        answered = ask(STEP, LOOK, hold(-9, 9), undo(), undo(), undo(), undo())
        self.assertEqual(answered[3:], [[0, 2], [0, 1], [0, 0], [-4]])

    def test_the_picture_is_gone_on_with(self):
        calls = [picture(3, 1, [1, 2, 4]), weigh(3, 3, 1, [1, 1, 1]), undo(), weigh(0, 3, 1, [1, 0, 0])]
        self.assertEqual(numbers_behind(calls, 3, 1), [0, 1, 2])


class TestSixteen(unittest.TestCase):
    def test_how_many_can_be_undone_then(self):
        for changes in range(1, 40):
            self.assertEqual(last(*[STEP] * changes, undo()), [0, min(changes, 16) - 1])

    def test_sixteen_and_not_the_seventeenth(self):
        for changes in [15, 16, 17, 18, 19]:
            kept = min(changes, 16)
            for undone in range(1, 20):
                behind = changes - min(undone, kept)
                answered = ask(*[STEP] * changes, *[undo()] * undone, now())
                with self.subTest(changes=changes, undone=undone):
                    self.assertEqual(answered[-2], [0, kept - undone] if undone <= kept else [-4])
                    self.assertEqual(answered[-1], [0, 1, 1, behind])

    def test_changes_behind_undone_ones_fill_up_again(self):
        calls = [STEP] * 17 + [undo(), STEP, STEP, undo()]
        self.assertEqual(last(*calls), [0, 15])
        self.assertEqual(ask(*calls, *[undo()] * 16, now())[-3:], [[0, 0], [-4], [0, 1, 1, 2]])

    def test_refused_changes_push_none_out(self):
        calls = [STEP] * 16 + [by(0, 0), hold(1, 0), mix(1001, 0)]
        self.assertEqual(ask(*calls, *[undo()] * 17, now())[-3:], [[0, 0], [-4], [0, 1, 1, 0]])


class TestBetween(unittest.TestCase):
    def test_a_refused_call_between_changes(self):
        for refused, refusal in REFUSED:
            calls = [picture(3, 1, [1, 2, 3]), STEP, refused, by(1, 10), refused, undo(), refused, now(), undo(), now()]
            wanted = [[0], [0, 2, 4], [refusal], [0, 12, 14], [refusal], [0, 1], [refusal], [0, 3, 1, 2, 3, 4], [0, 0],
                      [0, 3, 1, 1, 2, 3]]
            with self.subTest(refused=refused):
                self.assertEqual(ask(*calls), wanted)

    def test_a_change_refused_as_too_far(self):
        for refused in [by(1, 1), weigh(0, 1, 1, [2]), mix(2, 0)]:
            calls = far_picture([0], 1) + [refused, undo(), now()]
            with self.subTest(refused=refused):
                self.assertEqual(ask(*calls)[-3:], [[-9], [0, 3], [0, 1, 1, 1000000000000]])

    def test_what_is_no_change(self):
        for between in NO_CHANGES:
            calls = [picture(3, 1, [1, 2, 3]), STEP, between, STEP, between, undo(), between, undo(), between, undo()]
            with self.subTest(between=between):
                answered = ask(*calls)
                self.assertEqual(answered[2][0], 0)
                self.assertEqual(answered[5::2], [[0, 1], [0, 0], [-4]])

    def test_a_change_behind_an_undo(self):
        calls = [STEP, by(1, 10), undo(), by(1, 100), now(), undo(), now(), undo(), now(), undo()]
        wanted = [[0, 1], [0, 101, 101], [0, 1, 1, 101], [0, 1], [0, 1, 1, 1], [0, 0], [0, 1, 1, 0], [-4]]
        self.assertEqual(ask(*calls)[2:], wanted)

    def test_a_picture_behind_an_undo(self):
        calls = [STEP, STEP, undo(), picture(1, 1, [7]), undo(), now()]
        self.assertEqual(ask(*calls)[3:], [[0], [-4], [0, 1, 1, 7]])


class TestPutAside(unittest.TestCase):
    def test_put_is_not_undone(self):
        calls = [picture(2, 1, [3, 4]), STEP, put(), undo(), now(), mix(0, 1), now()]
        self.assertEqual(ask(*calls)[3:], [[0, 0], [0, 2, 1, 3, 4], [0, 4, 5], [0, 2, 1, 4, 5]])

    def test_the_one_put_ahead_of_the_change_stays(self):
        calls = [picture(2, 1, [3, 4]), put(), STEP, by(1, 10), undo(), mix(0, 1), now()]
        self.assertEqual(ask(*calls)[4:], [[0, 1], [0, 3, 4], [0, 2, 1, 3, 4]])

    def test_mix_undone_leaves_the_one_put_aside(self):
        calls = [picture(2, 1, [3, 4]), put(), picture(2, 1, [10, 20]), mix(1, 1), undo(), now(), mix(0, 1)]
        self.assertEqual(ask(*calls)[3:], [[0, 13, 24], [0, 0], [0, 2, 1, 10, 20], [0, 3, 4]])

    def test_an_undone_picture_is_put(self):
        calls = [picture(2, 1, [3, 4]), STEP, undo(), put(), by(1, 10), mix(0, 1), now()]
        self.assertEqual(ask(*calls)[-2:], [[0, 3, 4], [0, 2, 1, 3, 4]])

    def test_a_refused_undo_leaves_it(self):
        calls = [picture(2, 1, [3, 4]), put(), picture(2, 1, [10, 20]), undo(), mix(0, 1)]
        self.assertEqual(ask(*calls)[3:], [[-4], [0, 3, 4]])
