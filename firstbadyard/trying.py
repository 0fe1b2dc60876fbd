"""The calls on one new house, read from one list of whole numbers."""

from firstbadyard.house import House

BEGINS = 0
CHANGE = 1
FOUND = 2
LEFT = 3
BEST = 4
WAY = 5
HALF = 6

# By a call's number: how many numbers it has, itself and its row's count among them, the row not.
NUMBERS_OF_CALL = {0: 1, 1: 5, 2: 3, 3: 1, 4: 2, 5: 2, 6: 1, 7: 2}


def answers(calls):
    house = House()
    answered = []
    start = 0
    while start < len(calls):
        end = end_of_call(calls, start)
        answer = answer_of_call(house, calls[start:end])
        answered.append(len(answer))
        answered.extend(answer)
        start = end
    return answered


def end_of_call(calls, start):
    end = start + NUMBERS_OF_CALL[calls[start]]
    if calls[start] == CHANGE:
        return end + calls[end - 1]
    return end


def answer_of_call(house, call):
    if call[0] == BEGINS:
        return house.begins()
    if call[0] == CHANGE:
        return house.change(call[1], call[2], call[3], call[5:])
    if call[0] == FOUND:
        return house.found(call[1], call[2])
    if call[0] == LEFT:
        return house.left()
    if call[0] == BEST:
        return house.best(call[1])
    if call[0] == WAY:
        return house.way(call[1])
    if call[0] == HALF:
        return house.half()
    return house.upon(call[1])
