"""Calls in the written form, and the seesaw told a second time in the plainest way."""

from itertools import permutations

from tipboard.beam import answers


def begin(side, weights):
    return [0, side, len(weights)] + list(weights)


def sit(child, seat):
    return [1, child, seat]


def up(child):
    return [2, child]


TIP = [3]
LEVEL = [4]


def can(child, seat):
    return [5, child, seat]


def run(*calls):
    """What each call of the line answers, one list each."""
    told = answers([number for call in calls for number in call])
    parts = []
    at = 0
    while at < len(told):
        parts.append(told[at + 1:at + 1 + told[at]])
        if len(parts[-1]) != told[at] or told[at] < 1:
            raise AssertionError(f"a count is wrong: {told}")
        at += 1 + told[at]
    if len(parts) != len(calls):
        raise AssertionError(f"{len(calls)} calls, {len(parts)} answers: {told}")
    return parts


def last(*calls):
    return run(*calls)[-1]


def tipping(side, weights, seat_of):
    """How it tips; seat_of tells the seats of those that sit."""
    left = sum(weights[child] * (side - seat) for child, seat in seat_of.items() if seat < side)
    right = sum(weights[child] * (seat - side + 1) for child, seat in seat_of.items() if seat >= side)
    if left == right:
        return [0, 0]
    return [1, left - right] if left > right else [2, right - left]


def balanced(side, weights):
    """Every sitting of all children that balances, the first ahead."""
    return [seats for seats in permutations(range(2 * side), len(weights))
            if tipping(side, weights, dict(enumerate(seats))) == [0, 0]]


class Model:
    """Who sits where, told a second time, to hold answers against."""

    def __init__(self, side, weights):
        self.side = side
        self.weights = weights
        self.seat_of = {}

    def answer(self, call):
        if call == TIP:
            return tipping(self.side, self.weights, self.seat_of)
        child = call[1]
        if child >= len(self.weights):
            return [-2]
        if call[0] == 2:
            return [self.seat_of.pop(child, -3)]
        seat = call[2]
        if seat >= 2 * self.side:
            return [-1]
        if child in self.seat_of:
            return [-3]
        if seat in self.seat_of.values():
            return [-4]
        self.seat_of[child] = seat
        return tipping(self.side, self.weights, self.seat_of)
