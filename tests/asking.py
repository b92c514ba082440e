"""Calls written by name, and their answers taken apart: the tests ask through the interface alone."""

import unittest

from neighboursdesk.picture import answers

FAR = 1000000000000


def picture(w, h, numbers):
    return [0, w, h, len(numbers)] + list(numbers)


def weigh(outside, columns, rows, numbers):
    return [1, outside, columns, rows, len(numbers)] + list(numbers)


def rank(outside, r, n):
    return [2, outside, r, n]


def by(d, o):
    return [3, d, o]


def hold(least, greatest):
    return [4, least, greatest]


def put():
    return [5]


def mix(a, b):
    return [6, a, b]


def undo():
    return [7]


def now():
    return [8]


def cell(x, y):
    return [9, x, y]


def both(columns, rows, numbers, other_columns, other_rows, other_numbers):
    rest = list(numbers) + [other_columns, other_rows] + list(other_numbers)
    return [10, columns, rows, len(rest)] + rest


def part(columns, rows, numbers):
    return [11, columns, rows, len(numbers)] + list(numbers)


def told():
    return [12]


def joined(calls):
    return [number for call in calls for number in call]


def call_by_call(answered):
    """The answers call by call; an error if the counts don't fit what stands behind them."""
    found = []
    at = 0
    while at < len(answered):
        count = answered[at]
        if count < 1 or at + 1 + count > len(answered):
            raise AssertionError(f"count {count} at {at} of {answered}")
        found.append(answered[at + 1:at + 1 + count])
        at += 1 + count
    return found


def ask(*calls):
    return call_by_call(answers(joined(calls)))


def last(*calls):
    return ask(*calls)[-1]


# The picture unchanged, as a changed picture's answer tells of it.
LOOK = weigh(0, 1, 1, [1])


def numbers_behind(calls, w, h):
    """All numbers of the w by h picture behind these calls; an error if it has another size."""
    answered = last(*calls, now())
    if answered[:3] != [0, w, h] or len(answered) != 3 + w * h:
        raise AssertionError(f"{answered} is no picture of {w} by {h}")
    return answered[3:]


def far_picture(near, *cells):
    """Calls that make a row of the cells (each times 1000 ** 4) and add near, cell by cell."""
    w = len(cells)
    thousands = [weigh(0, 1, 1, [1000])] * 3
    return [picture(w, 1, near), put(), picture(w, 1, [1000 * c for c in cells])] + thousands + [mix(1, 1)]


class Asked(unittest.TestCase):
    """Tests of one call behind a new picture."""

    def assert_changed(self, w, h, numbers, call, wanted):
        calls = [picture(w, h, numbers), call]
        with self.subTest(calls=calls):
            self.assertEqual(ask(*calls), [[0], [0, min(wanted), max(wanted)]])
            self.assertEqual(numbers_behind(calls, w, h), wanted)

    def assert_refused(self, refusal, call):
        calls = [picture(3, 1, [5, -1, 3]), call]
        with self.subTest(calls=calls):
            self.assertEqual(ask(*calls), [[0], [refusal]])
            self.assertEqual(numbers_behind(calls, 3, 1), [5, -1, 3])
