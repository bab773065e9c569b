"""The calls on one house, told and answered as a list of whole numbers."""

from regrown.keeper import House

BEGIN = 1
EDIT = 2
MOVE = 3
UNDO = 4
REDO = 5
TREE = 6

# Of each call how many whole numbers it has, and whether a list stands behind them.
FORMS = {1: (2, True), 2: (2, True), 3: (3, False), 4: (0, False), 5: (0, False), 6: (0, False)}


def answers(calls):
    """Answer the calls one behind another: of each how many numbers are answered, and these."""
    house = House()
    given = []
    place = 0
    while place < len(calls):
        call = calls[place]
        form = FORMS[call]
        numbers = calls[place + 1:place + 1 + form[0]]
        place = place + 1 + form[0]
        row = []
        if form[1]:
            row = calls[place + 1:place + 1 + calls[place]]
            place = place + 1 + len(row)
        answered = answer(house, call, numbers, row)
        given.append(len(answered))
        given.extend(answered)
    return given


def answer(house, call, numbers, row):
    if call == BEGIN:
        return house.begin(numbers[0], numbers[1], row)
    if call == EDIT:
        return house.edit(numbers[0], numbers[1], row)
    if call == MOVE:
        return house.move(numbers[0], numbers[1], numbers[2])
    if call == UNDO:
        return house.undo()
    if call == REDO:
        return house.redo()
    return house.tree()
