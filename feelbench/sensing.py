"""What the four kinds of sensor take of a track, and how it becomes samples."""

from feelbench.tracks import cross, turned, turned_back
from feelbench.whole import all_within, held16, rounded, square_root

PUSH = 0
TURNING = 1
DISTANCE = 2
BEARING = 3
SEED_MOST = 18446744073709551615
SEAT_MOST = 2147483648
MARK_MOST = 1099511627776


# A sensor's settings, and the seed as far as it has gone on.
class Sensor:
    def __init__(self, kind, gain, shift, noise, seed, places):
        self.kind = kind
        self.gain = gain
        self.shift = shift
        self.noise = noise
        self.seed = seed
        self.seat = places[:3]
        self.mark = places[3:]

    def is_in_range(self):
        return (
            PUSH <= self.kind <= BEARING
            and -2147483648 <= self.gain <= 2147483647
            and 0 <= self.shift <= 62
            and 0 <= self.noise <= 16383
            and 0 <= self.seed <= SEED_MOST
            and all_within(self.seat, -SEAT_MOST, SEAT_MOST)
            and all_within(self.mark, -MARK_MOST, MARK_MOST)
        )

    # How many numbers are taken at a pose, and so how many rows come of it.
    def width(self):
        return 1 if self.kind == DISTANCE else 3

    def sample(self, y):
        self.seed = seed_after(self.seed)
        noise = (self.seed >> 33) % (2 * self.noise + 1) - self.noise
        return held16(rounded(self.gain * y, self.shift) + noise)

    # The samples of each row; the noise goes pose after pose, so across the rows.
    def rows_of(self, track):
        samples = [self.sample(y) for y in numbers_taken(self, track)]
        width = self.width()
        return [samples[first::width] for first in range(width)]


def seed_after(seed):
    # A seed 0 would stay 0 for ever. No other seed ever leads to 0.
    z = 1 if seed == 0 else seed
    z = z ^ ((z << 13) & SEED_MOST)
    z = z ^ (z >> 7)
    return z ^ ((z << 17) & SEED_MOST)


# All numbers that the sensor takes, pose after pose, a pose's numbers in order.
def numbers_taken(sensor, track):
    if sensor.kind == PUSH:
        return pushes(track, sensor.seat, sensor.mark)
    if sensor.kind == TURNING:
        return turnings(track)
    if sensor.kind == DISTANCE:
        return distances(track, sensor.seat, sensor.mark)
    return bearings(track, sensor.mark)


def points_of(track, seat):
    points = []
    for place, turn in zip(track.places, track.turns):
        points.append([a + b for a, b in zip(place, turned(seat, turn))])
    return points


def pushes(track, seat, mark):
    points = points_of(track, seat)
    numbers = []
    for i in range(1, len(points) - 1):
        push = [p - 2 * q + s - m for p, q, s, m in zip(points[i - 1], points[i], points[i + 1], mark)]
        numbers.extend(turned_back(push, track.turns[i]))
    return numbers


def turnings(track):
    numbers = []
    for i in range(len(track.turns) - 1):
        numbers.extend(turning_between(track.turns[i], track.turns[i + 1]))
    return numbers


def turning_between(one, two):
    a = sum([p * q for p, q in zip(one, two)])
    # A turn and its opposite are the same turn: the nearer way round is told.
    sign = -1 if a < 0 else 1
    crossed = cross(one[1:], two[1:])
    ways = [one[0] * q - two[0] * p - c for p, q, c in zip(one[1:], two[1:], crossed)]
    return [rounded(sign * b, 30) for b in ways]


def distances(track, seat, mark):
    numbers = []
    for point in points_of(track, seat):
        squares = [(p - m) * (p - m) for p, m in zip(point, mark)]
        numbers.append(square_root(sum(squares)))
    return numbers


def bearings(track, mark):
    numbers = []
    for turn in track.turns:
        numbers.extend(turned_back(mark, turn))
    return numbers
