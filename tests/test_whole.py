"""What holds over the whole program: lists that mix all calls, answered as by another reading of
the words (a picture is a dict by column and row here), and what the calls promise of one another."""

import math
import random
import unittest

import asking
from asking import FAR, ask, both, joined, last, mix, numbers_behind, part, picture, put, weigh
from neighboursdesk.picture import answers

SIZES = (1, 3, 5)


def in_line(i, n, outside):
    if outside == 0:
        return i
    if outside == 1:
        return sorted([0, i, n - 1])[1]
    if outside == 2:
        return (list(range(n)) + list(range(n - 1, -1, -1)))[i % (2 * n)]
    return i % n


def cells_of(w, numbers):
    return {(k % w, k // w): number for k, number in enumerate(numbers)}


def size_of(cells):
    return max(x for x, y in cells) + 1, max(y for x, y in cells) + 1


def look(cells, outside, x, y):
    w, h = size_of(cells)
    return cells.get((in_line(x, w, outside), in_line(y, h, outside)), 0)


def nearest(number, d):
    return min([number // d, number // d + 1], key=lambda near: (abs(near * d - number), -near))


def told_so(a, b, numbers):
    return a in SIZES and b in SIZES and len(numbers) == a * b and all(abs(k) <= 1000 for k in numbers)


class OtherReading:
    def __init__(self):
        self.cells = self.aside = {(0, 0): 0}
        self.ahead = ()

    def changed(self, cells):
        least, greatest = min(cells.values()), max(cells.values())
        if least < -FAR or greatest > FAR:
            return [-9]
        self.ahead = (self.ahead + (self.cells,))[-16:]
        self.cells = cells
        return [0, least, greatest]

    def picture(self, w, h, numbers):
        if w not in range(1, 13) or h not in range(1, 13) or len(numbers) != w * h:
            return [-1]
        if any(abs(number) > 65536 for number in numbers):
            return [-1]
        self.cells, self.ahead = cells_of(w, numbers), ()
        return [0]

    def weigh(self, outside, a, b, numbers):
        if outside > 3:
            return [-2]
        if not told_so(a, b, numbers):
            return [-3]
        weights = cells_of(a, numbers).items()
        return self.changed({
            (x, y): sum(k * look(self.cells, outside, x + i - a // 2, y + j - b // 2) for (i, j), k in weights)
            for x, y in self.cells})

    def rank(self, outside, r, n):
        if outside > 3:
            return [-2]
        if r not in (1, 2) or n >= (2 * r + 1) ** 2:
            return [-3]
        steps = [(i, j) for i in range(-r, r + 1) for j in range(-r, r + 1)]
        return self.changed({
            (x, y): sorted(look(self.cells, outside, x + i, y + j) for i, j in steps)[n] for x, y in self.cells})

    def by(self, d, o):
        if d < 1 or d > 1000000 or abs(o) > 65536:
            return [-3]
        return self.changed({at: nearest(k, d) + o for at, k in self.cells.items()})

    def hold(self, least, greatest):
        if greatest < least:
            return [-3]
        return self.changed({at: sorted([least, k, greatest])[1] for at, k in self.cells.items()})

    def put(self):
        self.aside = self.cells
        return [0]

    def mix(self, a, b):
        if abs(a) > 1000 or abs(b) > 1000:
            return [-3]
        if set(self.aside) != set(self.cells):
            return [-4]
        return self.changed({at: a * k + b * self.aside[at] for at, k in self.cells.items()})

    def undo(self):
        if not self.ahead:
            return [-4]
        self.ahead, self.cells = self.ahead[:-1], self.ahead[-1]
        return [0, len(self.ahead)]

    def now(self):
        w, h = size_of(self.cells)
        return [0, w, h] + [self.cells[x, y] for y in range(h) for x in range(w)]

    def cell(self, x, y):
        return [0, self.cells[x, y]] if (x, y) in self.cells else [-1]

    def both(self, a, b, numbers, c, d, others):
        if not told_so(a, b, numbers) or not told_so(c, d, others):
            return [-3]
        k, m = cells_of(a, numbers), cells_of(c, others)
        return [0, a + c - 1, b + d - 1] + [
            sum(k[u, v] * m.get((i - u, j - v), 0) for u, v in k) for j in range(b + d - 1) for i in range(a + c - 1)]

    def part(self, a, b, numbers):
        if not told_so(a, b, numbers):
            return [-3]
        first = next((numbers[at:at + a] for at in range(0, a * b, a) if any(numbers[at:at + a])), None)
        if first is None:
            return [0, 1] + [0] * (a + b)
        row = [number // math.gcd(*first) for number in first]
        lead = next(i for i in range(a) if row[i])
        column = [numbers[j * a + lead] // row[lead] for j in range(b)]
        fits = [times * number for times in column for number in row] == numbers
        return [0, 1] + row + column if fits else [0, 0]

    def told(self):
        numbers = sorted(self.cells.values())
        return [0, numbers[0], numbers[-1], sum(numbers)]


NAMES = ("picture", "weigh", "rank", "by", "hold", "put", "mix", "undo", "now", "cell", "both", "part", "told")
# With these more than 16 changes come together, and numbers that are too far from 0.
MOSTLY_CHANGES = ("weigh", "weigh", "weigh", "mix", "mix", "mix", "rank", "put", "undo", "now")


class Maker:
    """Calls as (name, what is handed in), most of them such that they aren't refused."""

    def __init__(self, seed):
        self.random = random.Random(seed)
        self.names = self.one_of(NAMES, NAMES, MOSTLY_CHANGES)

    def one_of(self, *several):
        return self.random.choice(several)

    def seldom(self):
        return self.random.random() < 0.06

    def number(self, farthest):
        if self.seldom():
            return self.one_of(-1, 1) * (farthest + self.one_of(0, 1, 1000))
        return self.random.randint(-min(farthest, 9), min(farthest, 9))

    def numbers(self, count, farthest):
        count = max(0, count + (self.one_of(-1, 1) if self.seldom() else 0))
        beyond = self.seldom()
        found = [self.random.randint(-9, 9) for k in range(count)]
        if found and (beyond or self.seldom()):
            found[self.random.randrange(count)] = self.one_of(-1, 1) * (farthest + (1 if beyond else 0))
        return found

    def weights(self):
        a, b = (self.one_of(0, 2, 4, 6, 7) if self.seldom() else self.one_of(*SIZES) for side in "ab")
        if told_so(a, b, [0] * (a * b)) and self.one_of(True, False):
            row = [self.one_of(-3, -1, 0, 0, 2, 4) for k in range(a)]
            return a, b, [times * number for times in [self.one_of(-2, 0, 1, 3) for k in range(b)] for number in row]
        return a, b, self.numbers(a * b, 1000)

    def two_weights(self):
        a, b, numbers = self.weights()
        numbers = (numbers + [0] * (a * b))[:a * b]
        return (a, b, numbers) + self.weights()

    def outside(self):
        return self.one_of(4, 5, 1000000000) if self.seldom() else self.random.randrange(4)

    def size(self):
        if self.seldom():
            return self.one_of(0, 13, 1)
        return self.one_of(1, 2, 2, 2, 3, 4, 5)

    def calls(self):
        first = [self.call("picture")] if self.names == MOSTLY_CHANGES else []
        return first + [self.call(self.one_of(*self.names)) for k in range(self.one_of(1, 17, 39, 39))]

    def call(self, name):
        if name == "picture":
            w, h = self.size(), self.size()
            return name, (w, h, self.numbers(min(w * h, 159), 65536))
        if name == "weigh":
            return name, (self.outside(),) + self.weights()
        if name == "rank":
            return name, (self.outside(), self.one_of(1, 1, 2, 2, 0, 3), self.random.randrange(27))
        if name == "by":
            return name, (self.one_of(1, 2, 3, 4, 10, 1000, 1000000, 0, -1, 1000001), self.number(65536))
        if name == "hold":
            return name, tuple(self.number(1000000) for side in "lu")
        if name == "mix":
            return name, (self.number(1000), self.number(1000))
        if name == "cell":
            return name, (self.random.randrange(4), self.random.randrange(4))
        if name in ("both", "part"):
            return name, self.two_weights() if name == "both" else self.weights()
        return name, ()


class TestAllCalls(unittest.TestCase):
    def test_lists_that_mix_all_calls(self):
        seen = set()
        for seed in range(400):
            calls = Maker(seed).calls()
            handed = joined(getattr(asking, name)(*given) for name, given in calls)
            before = list(handed)
            other = OtherReading()
            wanted = [getattr(other, name)(*given) for name, given in calls]
            self.assertEqual(answers(handed), joined([len(numbers)] + numbers for numbers in wanted), calls)
            self.assertEqual(handed, before)
            seen.add(len(other.ahead))
            seen.update((name, min(numbers[0], 0)) for (name, given), numbers in zip(calls, wanted, strict=True))
        refusals = {"picture": [-1], "cell": [-1], "weigh": [-2, -3, -9], "rank": [-2, -3], "by": [-3], "hold": [-3],
                    "mix": [-3, -4, -9], "both": [-3], "part": [-3], "undo": [-4], "put": [], "now": [], "told": []}
        self.assertIn(16, seen)
        for name, several in refusals.items():
            for first in [0] + several:
                self.assertIn((name, first), seen)


class TestOfOneAnother(unittest.TestCase):
    A = [3, 1, 4, 1, 5, 9, 2, 6, 5, 3, 5, 8]
    B = [-2, 7, 1, 8, -2, 8, 1, 8, 2, 8, -4, 5]
    WEIGHTS = [5, -3, 1, 0, 2, 7, -1, -1, 4]

    def test_what_is_weighed_of_a_sum_is_the_sum_of_what_is_weighed(self):
        for outside in range(4):
            weighed = weigh(outside, 3, 3, self.WEIGHTS)
            sum_first = [picture(4, 3, self.A), put(), picture(4, 3, self.B), mix(1, 1), weighed]
            sum_last = [picture(4, 3, self.A), weighed, put(), picture(4, 3, self.B), weighed, mix(1, 1)]
            self.assertEqual(numbers_behind(sum_first, 4, 3), numbers_behind(sum_last, 4, 3))

    # Only round again: else what lies outside is told anew between the two weighings.
    def test_two_weighings_are_one(self):
        for a, b, k in [(3, 3, self.WEIGHTS), (1, 3, [1, 2, -5]), (3, 1, [4, 0, 7]), (1, 1, [3])]:
            for c, d, m in [(3, 3, self.WEIGHTS[::-1]), (1, 3, [6, 1, 1]), (3, 1, [2, -9, 1])]:
                columns, rows, *numbers = last(both(a, b, k, c, d, m))[1:]
                two = [picture(4, 3, self.A), weigh(3, a, b, k), weigh(3, c, d, m)]
                one = [picture(4, 3, self.A), weigh(3, columns, rows, numbers)]
                self.assertEqual(numbers_behind(two, 4, 3), numbers_behind(one, 4, 3))

    def test_parted_weights_are_both_of_their_row_and_column(self):
        weights = [2, -4, 0, 6, 2, -3, 6, 0, -9, -3, 0, 0, 0, 0, 0]
        answered = last(part(5, 3, weights))
        self.assertEqual(answered, [0, 1, 1, -2, 0, 3, 1, 2, -3, 0])
        row, column = answered[2:7], answered[7:]
        self.assertEqual(ask(both(5, 1, row, 1, 3, column)), [[0, 5, 3] + weights])
        for outside in range(4):
            parted = [picture(4, 3, self.A), weigh(outside, 5, 1, row), weigh(outside, 1, 3, column)]
            whole = [picture(4, 3, self.A), weigh(outside, 5, 3, weights)]
            self.assertEqual(numbers_behind(parted, 4, 3), numbers_behind(whole, 4, 3))
