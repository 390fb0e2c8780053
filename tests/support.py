"""Calls in the written form, and the seesaw told a second time in the plainest way."""

from functools import lru_cache
from itertools import permutations

from tipboard.beam import answers


def begin(side, weights):
    return [0, side, len(weights)] + list(weights)


def sit(child, seat):
    return [1, child, seat]


def up(child):
    return [2, child]


TIP = [3]
LEVEL = [4]


def can(child, seat):
    return [5, child, seat]


NEAREST = [6]
CHANGE = [7]
DO = [8]


def only(*children):
    return [9, len(children)] + list(children)


LOOK = [10]


def run(*calls):
    """What each call of the line answers, one list each."""
    told = answers([number for call in calls for number in call])
    parts = []
    at = 0
    while at < len(told):
        parts.append(told[at + 1:at + 1 + told[at]])
        if len(parts[-1]) != told[at] or told[at] < 1:
            raise AssertionError(f"a count is wrong: {told}")
        at += 1 + told[at]
    if len(parts) != len(calls):
        raise AssertionError(f"{len(calls)} calls, {len(parts)} answers: {told}")
    return parts


def last(*calls):
    return run(*calls)[-1]


def tipping(side, weights, seat_of):
    """How it tips; seat_of tells the seats of those that sit."""
    left = sum(weights[child] * (side - seat) for child, seat in seat_of.items() if seat < side)
    right = sum(weights[child] * (seat - side + 1) for child, seat in seat_of.items() if seat >= side)
    if left == right:
        return [0, 0]
    return [1, left - right] if left > right else [2, right - left]


@lru_cache(maxsize=None)
def ways_to_sit(side, weights):
    """Every sitting of children of these weights, the first ahead, each with how it tips."""
    return [(seats, tipping(side, weights, dict(enumerate(seats))))
            for seats in permutations(range(2 * side), len(weights))]


def balanced(side, weights):
    """Every sitting of all children that balances, the first ahead."""
    return [seats for seats, tips in ways_to_sit(side, tuple(weights)) if tips == [0, 0]]


def nearest(side, weights):
    """What nearest answers, by putting the sittings in order of how much it tips."""
    ordered = sorted((tips[1], seats) for seats, tips in ways_to_sit(side, tuple(weights)))
    least, first = ordered[0]
    return [least, sum(much == least for much, seats in ordered), *first]


def changed(side, weights, seat_of):
    """What change answers, by putting the balanced sittings in order of how many change."""
    children = sorted(seat_of)
    now = [seat_of[child] for child in children]
    ways = balanced(side, [weights[child] for child in children])
    ordered = sorted((sum(now[at] != way[at] for at in range(len(way))), way) for way in ways)
    return [ordered[0][0], *ordered[0][1]] if ordered else [-6]


class Model:
    """Who sits where, told a second time, to hold answers against."""

    def __init__(self, side, weights):
        self.side = side
        self.weights = list(weights)
        self.seat_of = {}

    def answer(self, call):
        told = {1: self.sit, 2: self.up, 3: self.tip, 4: self.level, 5: self.can, 6: self.nearest,
                7: self.change, 8: self.do, 9: self.only, 10: self.look}
        return told[call[0]](*call[1:])

    def sit(self, child, seat):
        if child >= len(self.weights):
            return [-2]
        if seat >= 2 * self.side:
            return [-1]
        if child in self.seat_of:
            return [-3]
        if seat in self.seat_of.values():
            return [-4]
        self.seat_of[child] = seat
        return self.tip()

    def up(self, child):
        if child >= len(self.weights):
            return [-2]
        return [self.seat_of.pop(child, -3)]

    def tip(self):
        return tipping(self.side, self.weights, self.seat_of)

    def level(self):
        ways = balanced(self.side, self.weights)
        return [len(ways), *(ways[0] if ways else [])]

    def can(self, child, seat):
        if child >= len(self.weights):
            return [-2]
        if seat >= 2 * self.side:
            return [-1]
        return [sum(way[child] == seat for way in balanced(self.side, self.weights))]

    def nearest(self):
        return nearest(self.side, self.weights)

    def change(self):
        return changed(self.side, self.weights, self.seat_of)

    def do(self):
        told = self.change()
        if told != [-6]:
            self.seat_of = dict(zip(sorted(self.seat_of), told[1:]))
        return told[:1]

    def only(self, many, *children):
        if len(set(children)) != many or any(child >= len(self.weights) for child in children):
            return [-1]
        return [len(balanced(self.side, [self.weights[child] for child in sorted(children)]))]

    def look(self):
        pairs = sorted(self.seat_of.items())
        return [self.side, *self.weights, len(pairs)] + [number for pair in pairs for number in pair]


def told_by_model(calls):
    """What each call of a line answers, by the model; the line may have several begins."""
    model = None
    told = []
    for call in calls:
        if call[0] == 0:
            side, many, weights = call[1], call[2], call[3:]
            fits = side in (1, 2, 3, 4) and many in range(1, 6) and many <= 2 * side
            if fits and all(weight in range(1, 61) for weight in weights):
                model = Model(side, weights)
                told.append([0])
            else:
                told.append([-1])
        else:
            told.append([-9] if model is None else model.answer(call))
    return told
