"""The interface: a list of calls on a new desk, and the list of what they answer."""

from neighboursdesk.desk import Desk
from neighboursdesk.grid import Grid
from neighboursdesk.reader import Reader

# By a call's number: how many whole numbers stand behind it, and whether a row follows them.
WHOLES = (2, 3, 3, 2, 2, 0, 2)
HAS_ROW = (True, True, False, False, False, False, False)


def answer(desk, call, wholes, row):
    if call == 0:
        return desk.show(wholes[0], wholes[1], row)
    if call == 1:
        return desk.weigh(wholes[0], Grid(wholes[1], wholes[2], row))
    if call == 2:
        return desk.rank(wholes[0], wholes[1], wholes[2])
    if call == 3:
        return desk.by(wholes[0], wholes[1])
    if call == 4:
        return desk.hold(wholes[0], wholes[1])
    if call == 5:
        return desk.put()
    return desk.mix(wholes[0], wholes[1])


def answers(calls):
    desk = Desk()
    reader = Reader(calls)
    answered = []
    while not reader.is_done():
        call = reader.take_one()
        wholes = reader.take_several(WHOLES[call])
        row = reader.take_row() if HAS_ROW[call] else []
        numbers = answer(desk, call, wholes, row)
        answered.append(len(numbers))
        answered.extend(numbers)
    return answered
