"""What the desk keeps to be undone: no call of the interface shows it yet."""

import unittest

from neighboursdesk.desk import Desk
from neighboursdesk.grid import Grid


def kept(desk):
    return [grid.numbers for grid in desk.earlier]


class TestKept(unittest.TestCase):
    def test_nothing_as_it_begins(self):
        self.assertEqual(kept(Desk()), [])

    def test_each_change_keeps_the_picture_ahead_of_it(self):
        desk = Desk()
        desk.show(1, 1, [8])
        desk.put()
        for answered in [desk.weigh(0, Grid(1, 1, [2])), desk.rank(1, 1, 0), desk.by(4, 1), desk.hold(0, 3),
                         desk.mix(2, 1)]:
            self.assertEqual(answered[0], 0)
        self.assertEqual(kept(desk), [[8], [16], [16], [5], [3]])
        self.assertEqual(desk.current.numbers, [14])

    def test_sixteen_changes_and_no_more(self):
        desk = Desk()
        for number in range(16):
            desk.by(1, 1)
        self.assertEqual(kept(desk), [[number] for number in range(16)])
        desk.by(1, 1)
        self.assertEqual(kept(desk), [[number] for number in range(1, 17)])

    def test_a_new_picture_forgets_them(self):
        desk = Desk()
        desk.by(1, 1)
        desk.show(1, 1, [5])
        self.assertEqual(kept(desk), [])

    def test_put_and_refusals_keep_them_as_they_are(self):
        desk = Desk()
        desk.by(1, 1)
        desk.put()
        refused = [desk.show(1, 1, []), desk.weigh(4, Grid(1, 1, [1])), desk.weigh(0, Grid(2, 1, [1, 1])),
                   desk.rank(4, 1, 0), desk.rank(0, 3, 0), desk.by(0, 0), desk.hold(1, 0), desk.mix(1001, 0)]
        self.assertEqual(refused, [[-1], [-2], [-3], [-2], [-3], [-3], [-3], [-3]])
        self.assertEqual(kept(desk), [[0]])

    def test_too_far_keeps_them_as_they_are(self):
        desk = Desk()
        desk.show(1, 1, [1000])
        for step in range(3):
            desk.weigh(0, Grid(1, 1, [1000]))
        before = kept(desk)
        self.assertEqual(desk.weigh(0, Grid(1, 1, [2])), [-9])
        self.assertEqual(desk.by(1, 1), [-9])
        self.assertEqual(kept(desk), before)
        desk.put()
        self.assertEqual(desk.mix(1, 1), [-9])
        self.assertEqual(kept(desk), before)

    def test_another_size_keeps_them_as_they_are(self):
        desk = Desk()
        desk.show(2, 1, [1, 2])
        desk.by(1, 1)
        self.assertEqual(desk.mix(1, 1), [-4])
        self.assertEqual(kept(desk), [[1, 2]])
