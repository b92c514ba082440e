"""Whole numbers in columns and rows, a picture or weights, and what lies outside of a picture."""


# A grid is never changed once it is made: the picture, the one put aside and
# the earlier ones may then be one and the same grid without harm.
class Grid:
    def __init__(self, columns, rows, numbers):
        self.columns = columns
        self.rows = rows
        self.numbers = numbers


# -1 says that nothing is there; the cell is 0 then, and has no place of its own.
def place_in_line(outside, length, place):
    if place >= 0 and place < length:
        return place
    if outside == 0:
        return -1
    if outside == 1:
        return 0 if place < 0 else length - 1
    if outside == 2:
        turned = place % (2 * length)
        return turned if turned < length else 2 * length - 1 - turned
    return place % length


def number_at(picture, outside, column, row):
    x = place_in_line(outside, picture.columns, column)
    y = place_in_line(outside, picture.rows, row)
    if x < 0 or y < 0:
        return 0
    return picture.numbers[y * picture.columns + x]
