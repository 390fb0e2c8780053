"""The ways in which children can sit on a board."""


# To the left of the middle an arm is below 0, so that weights times arms add up to a tilt:
# below 0 the board tips to the left, above 0 to the right.
def arms_of(side):
    return list(range(-side, 0)) + list(range(1, side + 1))


def all_sittings(arms, weights):
    found = [((), 0)]
    for weight in weights:
        longer = []
        # Seats are tried from the lowest on, so of two sittings the first stays ahead.
        for seats, tilt in found:
            for seat, arm in enumerate(arms):
                if seat not in seats:
                    longer.append((seats + (seat,), tilt + weight * arm))
        found = longer
    return found


def level_sittings(arms, weights):
    return [seats for seats, tilt in all_sittings(arms, weights) if tilt == 0]


def how_many_change(now, then):
    return len([seat for seat, other in zip(now, then) if seat != other])


def fewest_changes(now, ways):
    best = None
    for way in ways:
        # Only what is better takes its place: of as good ways the first is kept.
        if best is None or how_many_change(now, way) < how_many_change(now, best):
            best = way
    return best
