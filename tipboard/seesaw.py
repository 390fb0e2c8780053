"""One seesaw: its board, its children, who sits where, and what it answers to each call."""

from tipboard.sittings import all_sittings, arms_of, fewest_changes, how_many_change, level_sittings

MOST_SEATS_ON_A_SIDE = 4
MOST_CHILDREN = 5
MOST_WEIGHT = 60

NO_SUCH_SEAT = -1
NO_SUCH_CHILD = -2
SITS_ALREADY = -3
DOES_NOT_SIT = -3
SEAT_IS_TAKEN = -4
CANNOT_BALANCE = -6
NO_SUCH_CHILDREN = -1

BALANCES = 0
TO_THE_LEFT = 1
TO_THE_RIGHT = 2


def can_be_built(side, weights):
    if not 1 <= side <= MOST_SEATS_ON_A_SIDE:
        return False
    if not 1 <= len(weights) <= min(MOST_CHILDREN, 2 * side):
        return False
    return min(weights) >= 1 and max(weights) <= MOST_WEIGHT


def how_it_tips(tilt):
    if tilt < 0:
        return [TO_THE_LEFT, -tilt]
    if tilt > 0:
        return [TO_THE_RIGHT, tilt]
    return [BALANCES, 0]


class Seesaw:
    def __init__(self, side, weights):
        self.side = side
        self.arms = arms_of(side)
        self.weights = list(weights)
        # A child's seat, by its number; None while it doesn't sit.
        self.places = [None for weight in weights]

    def has_child(self, child):
        return 0 <= child < len(self.weights)

    def has_seat(self, seat):
        return 0 <= seat < len(self.arms)

    def seated(self):
        return [child for child, seat in enumerate(self.places) if seat is not None]

    def seats_now(self):
        return [seat for seat in self.places if seat is not None]

    def ways_to_balance(self, children):
        return level_sittings(self.arms, [self.weights[child] for child in children])

    def sit(self, child, seat):
        if not self.has_child(child):
            return [NO_SUCH_CHILD]
        if not self.has_seat(seat):
            return [NO_SUCH_SEAT]
        if self.places[child] is not None:
            return [SITS_ALREADY]
        if seat in self.places:
            return [SEAT_IS_TAKEN]
        self.places[child] = seat
        return self.tip()

    def up(self, child):
        if not self.has_child(child):
            return [NO_SUCH_CHILD]
        seat = self.places[child]
        if seat is None:
            return [DOES_NOT_SIT]
        self.places[child] = None
        return [seat]

    def tip(self):
        tilt = 0
        for weight, seat in zip(self.weights, self.places):
            if seat is not None:
                tilt = tilt + weight * self.arms[seat]
        return how_it_tips(tilt)

    def level(self):
        ways = level_sittings(self.arms, self.weights)
        if len(ways) == 0:
            return [0]
        return [len(ways)] + list(ways[0])

    def can(self, child, seat):
        if not self.has_child(child):
            return [NO_SUCH_CHILD]
        if not self.has_seat(seat):
            return [NO_SUCH_SEAT]
        ways = level_sittings(self.arms, self.weights)
        return [len([way for way in ways if way[child] == seat])]

    def nearest(self):
        found = all_sittings(self.arms, self.weights)
        least = min([abs(tilt) for seats, tilt in found])
        ways = [seats for seats, tilt in found if abs(tilt) == least]
        return [least, len(ways)] + list(ways[0])

    def change(self):
        now = self.seats_now()
        way = fewest_changes(now, self.ways_to_balance(self.seated()))
        if way is None:
            return [CANNOT_BALANCE]
        return [how_many_change(now, way)] + list(way)

    def do(self):
        told = self.change()
        if told == [CANNOT_BALANCE]:
            return told
        # Behind how many change stands one seat for each that sits.
        for child, seat in zip(self.seated(), told[1:]):
            self.places[child] = seat
        return [told[0]]

    def only(self, children):
        if not all([self.has_child(child) for child in children]):
            return [NO_SUCH_CHILDREN]
        if len(set(children)) < len(children):
            return [NO_SUCH_CHILDREN]
        return [len(self.ways_to_balance(children))]

    def look(self):
        children = self.seated()
        told = [self.side] + self.weights + [len(children)]
        for child in children:
            told.extend([child, self.places[child]])
        return told
