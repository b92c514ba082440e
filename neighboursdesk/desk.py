"""What is kept from call to call, what each call refuses, and what it answers."""

from neighboursdesk.changes import divided_and_moved, held, mixed, ranked, weighed
from neighboursdesk.grid import Grid
from neighboursdesk.weights import both_of, parted

GREATEST_SIDE = 12
FARTHEST_HANDED_IN = 65536
FARTHEST_FACTOR = 1000
GREATEST_DIVISOR = 1000000
FARTHEST_CHANGED = 1000000000000
CHANGES_KEPT = 16


def is_from(number, least, greatest):
    return least <= number and number <= greatest


def all_near(numbers, farthest):
    return all([is_from(number, -farthest, farthest) for number in numbers])


def is_picture(columns, rows, numbers):
    if not is_from(columns, 1, GREATEST_SIDE) or not is_from(rows, 1, GREATEST_SIDE):
        return False
    return len(numbers) == columns * rows and all_near(numbers, FARTHEST_HANDED_IN)


def is_outside(outside):
    return is_from(outside, 0, 3)


def are_weights(weights):
    if weights.columns not in (1, 3, 5) or weights.rows not in (1, 3, 5):
        return False
    return len(weights.numbers) == weights.columns * weights.rows and all_near(weights.numbers, FARTHEST_FACTOR)


def is_rank(r, n):
    side = 2 * r + 1
    return is_from(r, 1, 2) and is_from(n, 0, side * side - 1)


class Desk:
    def __init__(self):
        self.current = Grid(1, 1, [0])
        self.aside = self.current
        self.earlier = []

    def show(self, columns, rows, numbers):
        if not is_picture(columns, rows, numbers):
            return [-1]
        self.current = Grid(columns, rows, numbers)
        self.earlier = []
        return [0]

    # By rank no number can be refused here: each was in the picture, or is 0.
    def change(self, numbers):
        if not all_near(numbers, FARTHEST_CHANGED):
            return [-9]
        self.earlier.append(self.current)
        if len(self.earlier) > CHANGES_KEPT:
            self.earlier.pop(0)
        self.current = Grid(self.current.columns, self.current.rows, numbers)
        return [0, min(numbers), max(numbers)]

    def weigh(self, outside, weights):
        if not is_outside(outside):
            return [-2]
        if not are_weights(weights):
            return [-3]
        return self.change(weighed(self.current, outside, weights))

    def rank(self, outside, r, n):
        if not is_outside(outside):
            return [-2]
        if not is_rank(r, n):
            return [-3]
        return self.change(ranked(self.current, outside, r, n))

    def by(self, d, o):
        if not is_from(d, 1, GREATEST_DIVISOR) or not all_near([o], FARTHEST_HANDED_IN):
            return [-3]
        return self.change(divided_and_moved(self.current, d, o))

    def hold(self, least, greatest):
        if greatest < least:
            return [-3]
        return self.change(held(self.current, least, greatest))

    def put(self):
        self.aside = self.current
        return [0]

    def mix(self, a, b):
        if not all_near([a, b], FARTHEST_FACTOR):
            return [-3]
        if self.aside.columns != self.current.columns or self.aside.rows != self.current.rows:
            return [-4]
        return self.change(mixed(self.current, self.aside, a, b))

    def undo(self):
        if self.earlier == []:
            return [-4]
        self.current = self.earlier.pop()
        return [0, len(self.earlier)]

    def now(self):
        return [0, self.current.columns, self.current.rows] + self.current.numbers

    def cell(self, column, row):
        if column >= self.current.columns or row >= self.current.rows:
            return [-1]
        return [0, self.current.numbers[row * self.current.columns + column]]

    def both(self, first, second):
        if not are_weights(first) or not are_weights(second):
            return [-3]
        weights = both_of(first, second)
        return [0, weights.columns, weights.rows] + weights.numbers

    def part(self, weights):
        if not are_weights(weights):
            return [-3]
        row_and_column = parted(weights)
        return [0, 0] if row_and_column is None else [0, 1] + row_and_column

    def told(self):
        numbers = self.current.numbers
        return [0, min(numbers), max(numbers), sum(numbers)]
