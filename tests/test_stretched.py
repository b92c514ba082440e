"""weigh and rank against another reading of the words: a picture stretched by two cells
on each side, in which every window is a plain slice."""

import unittest

from asking import numbers_behind, picture, rank, weigh


def stretched_line(line, outside, nothing):
    n = len(line)
    if outside == 0:
        return [nothing] * 2 + line + [nothing] * 2
    if outside == 1:
        return line[:1] * 2 + line + line[-1:] * 2
    again = line + line[::-1] if outside == 2 else line
    start = 2 * len(again) - 2
    return (again * 8)[start:start + n + 4]


def stretched(w, h, numbers, outside):
    rows = [numbers[y * w:(y + 1) * w] for y in range(h)]
    wide = [stretched_line(row, outside, 0) for row in rows]
    return stretched_line(wide, outside, [0] * (w + 4))


def windows(w, h, numbers, outside, columns, rows):
    """For each cell the columns by rows cells with it in their middle, row by row."""
    large = stretched(w, h, numbers, outside)
    left = 2 - columns // 2
    top = 2 - rows // 2
    found = []
    for y in range(h):
        for x in range(w):
            part = [row[x + left:x + left + columns] for row in large[y + top:y + top + rows]]
            found.append([number for row in part for number in row])
    return found


def pictures():
    for w in range(1, 5):
        for h in range(1, 4):
            yield w, h, [(7 * k * k + 31 * k) % 101 - 50 for k in range(w * h)]


class TestStretched(unittest.TestCase):
    def test_weighed(self):
        for w, h, numbers in pictures():
            for columns, rows in [(a, b) for a in (1, 3, 5) for b in (1, 3, 5)]:
                weights = [(37 * k + 11) % 41 - 20 for k in range(columns * rows)]
                for outside in range(4):
                    seen = windows(w, h, numbers, outside, columns, rows)
                    wanted = [sum(k * c for k, c in zip(weights, cells, strict=True)) for cells in seen]
                    calls = [picture(w, h, numbers), weigh(outside, columns, rows, weights)]
                    with self.subTest(calls=calls):
                        self.assertEqual(numbers_behind(calls, w, h), wanted)

    def test_ranked(self):
        for w, h, numbers in pictures():
            for outside in range(4):
                for r, places in [(1, range(9)), (2, range(0, 25, 3))]:
                    seen = windows(w, h, numbers, outside, 2 * r + 1, 2 * r + 1)
                    for n in places:
                        calls = [picture(w, h, numbers), rank(outside, r, n)]
                        with self.subTest(calls=calls):
                            wanted = [sorted(cells)[n] for cells in seen]
                            self.assertEqual(numbers_behind(calls, w, h), wanted)
