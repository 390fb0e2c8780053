"""A line of calls on one seesaw; for each call, how many numbers it answers, then these."""

from tipboard.seesaw import Seesaw, can_be_built

BEGIN = 0
SIT = 1
UP = 2
TIP = 3
LEVEL = 4
CAN = 5
NEAREST = 6
CHANGE = 7
DO = 8
ONLY = 9

# How many whole numbers each call has, by the call's number, ahead of its row if it has one.
NUMBERS = (1, 2, 1, 0, 0, 2, 0, 0, 0, 0, 0)

NO_SUCH_BOARD = -1
NO_SEESAW = -9


def end_of_call(calls, start):
    number = calls[start]
    end = start + 1 + NUMBERS[number]
    if number == BEGIN or number == ONLY:
        end = end + 1 + calls[end]
    return end


def split_calls(calls):
    parts = []
    start = 0
    while start < len(calls):
        end = end_of_call(calls, start)
        parts.append(calls[start:end])
        start = end
    return parts


def ask(seesaw, call):
    number = call[0]
    if number == SIT:
        return seesaw.sit(call[1], call[2])
    if number == UP:
        return seesaw.up(call[1])
    if number == TIP:
        return seesaw.tip()
    if number == LEVEL:
        return seesaw.level()
    if number == CAN:
        return seesaw.can(call[1], call[2])
    if number == NEAREST:
        return seesaw.nearest()
    if number == CHANGE:
        return seesaw.change()
    if number == DO:
        return seesaw.do()
    if number == ONLY:
        # The row's count stands ahead of the children.
        return seesaw.only(call[2:])
    # Of the calls only look is left.
    return seesaw.look()


class Line:
    def __init__(self):
        # A line begins without one, and each begin puts another in its place.
        self.seesaw = None

    def begin(self, side, weights):
        if not can_be_built(side, weights):
            return [NO_SUCH_BOARD]
        self.seesaw = Seesaw(side, weights)
        return [0]

    def answer(self, call):
        if call[0] == BEGIN:
            # The row's count stands between the seats and the weights.
            return self.begin(call[1], call[3:])
        if self.seesaw is None:
            return [NO_SEESAW]
        return ask(self.seesaw, call)


def answers(calls):
    line = Line()
    told = []
    for call in split_calls(calls):
        numbers = line.answer(call)
        told.append(len(numbers))
        told.extend(numbers)
    return told
