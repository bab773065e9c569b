"""The calls on one house, told and answered as a list of whole numbers."""

from regrown.keeper import House

BEGIN = 1
EDIT = 2
MOVE = 3
UNDO = 4
REDO = 5
TREE = 6
WORDS = 7
NODE = 8
AT = 9
MARK = 10

# How many whole numbers each call has, from call 1 on, and which calls have a list behind these.
NUMBER_COUNTS = (2, 2, 3, 0, 0, 0, 0, 1, 2, 2, 0)
WITH_LIST = (1, 2)


def answers(calls):
    """Answer the calls one behind another: of each how many numbers are answered, and these."""
    house = House()
    given = []
    place = 0
    while place < len(calls):
        call = calls[place]
        behind = place + 1 + NUMBER_COUNTS[call - 1]
        numbers = calls[place + 1:behind]
        row = []
        if call in WITH_LIST:
            row = calls[behind + 1:behind + 1 + calls[behind]]
            behind = behind + 1 + len(row)
        place = behind
        answered = answer(house, call, numbers, row)
        given.append(len(answered))
        given.extend(answered)
    return given


def answer(house, call, numbers, row):
    if call == BEGIN:
        return house.begin(numbers[0], numbers[1], row)
    if call == EDIT:
        return house.edit(numbers[0], numbers[1], row)
    if call == MOVE:
        return house.move(numbers[0], numbers[1], numbers[2])
    if call == UNDO:
        return house.undo()
    if call == REDO:
        return house.redo()
    if call == TREE:
        return house.tree()
    if call == WORDS:
        return house.words()
    if call == NODE:
        return house.node(numbers[0])
    if call == AT:
        return house.at(numbers[0], numbers[1])
    if call == MARK:
        return house.mark(numbers[0], numbers[1])
    return house.marks()
