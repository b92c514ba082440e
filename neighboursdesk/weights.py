"""What is told of weights by themselves: both of two, and the row and column that they can be parted into."""

from neighboursdesk.grid import Grid


def both_of(first, second):
    columns = first.columns + second.columns - 1
    rows = first.rows + second.rows - 1
    sums = [0] * (columns * rows)
    for place, weight in enumerate(first.numbers):
        for other_place, other in enumerate(second.numbers):
            column = place % first.columns + other_place % second.columns
            row = place // first.columns + other_place // second.columns
            sums[row * columns + column] = sums[row * columns + column] + weight * other
    return Grid(columns, rows, sums)


def common_divisor_of_two(first, second):
    while second != 0:
        remainder = first % second
        first = second
        second = remainder
    return first


# Above 0 if any number isn't 0: of numbers below 0 only their distance from 0 counts.
def common_divisor(numbers):
    found = 0
    for number in numbers:
        found = common_divisor_of_two(found, abs(number))
    return found


def rows_of(weights):
    columns = weights.columns
    return [weights.numbers[row * columns:(row + 1) * columns] for row in range(weights.rows)]


# None says that the row isn't a whole number of times the unit.
def times_of(unit, row):
    place = 0
    while unit[place] == 0:
        place = place + 1
    times = row[place] // unit[place]
    return times if row == [times * number for number in unit] else None


# The row's numbers and then the column's; None if the weights can't be parted.
def parted(weights):
    rows = rows_of(weights)
    rows_with_weight = [row for row in rows if any(row)]
    if rows_with_weight == []:
        return [0] * (weights.columns + weights.rows)
    divisor = common_divisor(rows_with_weight[0])
    unit = [number // divisor for number in rows_with_weight[0]]
    column = [times_of(unit, row) for row in rows]
    return None if None in column else unit + column
