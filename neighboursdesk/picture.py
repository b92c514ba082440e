"""The interface: a list of calls on a new desk, and the list of what they answer."""

from neighboursdesk.desk import Desk
from neighboursdesk.grid import Grid
from neighboursdesk.reader import Reader

# By a call's number: how many whole numbers stand behind it.
WHOLES = (2, 3, 3, 2, 2, 0, 2, 0, 0, 2, 2, 2, 0)
# The calls in which a row follows these.
WITH_ROW = (0, 1, 10, 11)


# The second weights stand in the rest, their sizes ahead, behind as many numbers as the first sizes make.
# A rest too short for them holds no weights, and is refused like any that aren't told so.
def answer_both(desk, columns, rows, rest):
    count = columns * rows
    first = Grid(columns, rows, rest[:count])
    sizes = rest[count:count + 2]
    if len(sizes) < 2:
        sizes = [0, 0]
    return desk.both(first, Grid(sizes[0], sizes[1], rest[count + 2:]))


# What changes neither the picture nor what can be undone.
def answer_question(desk, call, wholes, row):
    if call == 8:
        return desk.now()
    if call == 9:
        return desk.cell(wholes[0], wholes[1])
    if call == 10:
        return answer_both(desk, wholes[0], wholes[1], row)
    if call == 11:
        return desk.part(Grid(wholes[0], wholes[1], row))
    return desk.told()


def answer(desk, call, wholes, row):
    if call == 0:
        return desk.show(wholes[0], wholes[1], row)
    if call == 1:
        return desk.weigh(wholes[0], Grid(wholes[1], wholes[2], row))
    if call == 2:
        return desk.rank(wholes[0], wholes[1], wholes[2])
    if call == 3:
        return desk.by(wholes[0], wholes[1])
    if call == 4:
        return desk.hold(wholes[0], wholes[1])
    if call == 5:
        return desk.put()
    if call == 6:
        return desk.mix(wholes[0], wholes[1])
    if call == 7:
        return desk.undo()
    return answer_question(desk, call, wholes, row)


def answers(calls):
    desk = Desk()
    reader = Reader(calls)
    answered = []
    while not reader.is_done():
        call = reader.take_one()
        wholes = reader.take_several(WHOLES[call])
        row = reader.take_row() if call in WITH_ROW else []
        numbers = answer(desk, call, wholes, row)
        answered.append(len(numbers))
        answered.extend(numbers)
    return answered
