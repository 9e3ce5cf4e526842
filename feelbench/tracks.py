"""Tracks of bodies, and ways turned by a body's turn."""

from feelbench.whole import all_within, double_taken, rounded

PLACE_PLACES = 20
PLACE_MOST = 1099511627776
TURN_PLACES = 30
TURN_MOST = 2147483648


# A rate and the poses: a place x y z and a turn w x y z each, as whole numbers.
class Track:
    def __init__(self, rate, places, turns):
        self.rate = rate
        self.places = places
        self.turns = turns


# What is taken of the doubles, or None if one is not a number or lies too far out.
def doubles_taken(doubles, places, most):
    numbers = [double_taken(bits, places) for bits in doubles]
    if None in numbers or not all_within(numbers, -most, most):
        return None
    return numbers


# The track, or None if one of its doubles may not be taken.
def make_track(rate, n, doubles):
    places = []
    turns = []
    for at in range(0, 7 * n, 7):
        place = doubles_taken(doubles[at:at + 3], PLACE_PLACES, PLACE_MOST)
        turn = doubles_taken(doubles[at + 3:at + 7], TURN_PLACES, TURN_MOST)
        if place is None or turn is None:
            return None
        places.append(place)
        turns.append(turn)
    return Track(rate, places, turns)


def cross(u, v):
    return [
        u[1] * v[2] - u[2] * v[1],
        u[2] * v[0] - u[0] * v[2],
        u[0] * v[1] - u[1] * v[0],
    ]


def turned_by(v, w, u):
    twice = [2 * c for c in cross(u, v)]
    again = cross(u, twice)
    return [a + rounded(w * t + d, 60) for a, t, d in zip(v, twice, again)]


def turned(v, turn):
    return turned_by(v, turn[0], turn[1:])


def turned_back(v, turn):
    return turned_by(v, turn[0], [-a for a in turn[1:]])
