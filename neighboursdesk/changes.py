"""What the numbers of a picture become, all cells at once: each answers a new list."""

from neighboursdesk.grid import number_at


def weighed_cell(picture, outside, weights, column, row):
    left = column - (weights.columns - 1) // 2
    top = row - (weights.rows - 1) // 2
    total = 0
    for j in range(weights.rows):
        for i in range(weights.columns):
            weight = weights.numbers[j * weights.columns + i]
            total = total + weight * number_at(picture, outside, left + i, top + j)
    return total


def weighed(picture, outside, weights):
    numbers = []
    for row in range(picture.rows):
        for column in range(picture.columns):
            numbers.append(weighed_cell(picture, outside, weights, column, row))
    return numbers


def ranked_cell(picture, outside, r, n, column, row):
    around = []
    for y in range(row - r, row + r + 1):
        for x in range(column - r, column + r + 1):
            around.append(number_at(picture, outside, x, y))
    return sorted(around)[n]


def ranked(picture, outside, r, n):
    numbers = []
    for row in range(picture.rows):
        for column in range(picture.columns):
            numbers.append(ranked_cell(picture, outside, r, n, column, row))
    return numbers


# Half of d is added ahead of rounding down, so that a half goes to the greater
# number, below 0 too; both sides are doubled, as half of an odd d isn't whole.
def divided(number, d):
    return (2 * number + d) // (2 * d)


def divided_and_moved(picture, d, o):
    return [divided(number, d) + o for number in picture.numbers]


def held(picture, least, greatest):
    return [min(max(number, least), greatest) for number in picture.numbers]


def mixed(picture, aside, a, b):
    return [a * number + b * other for number, other in zip(picture.numbers, aside.numbers)]
