"""The document once more, slow and by fractions, to hold the program against."""

import math
import struct
from fractions import Fraction


def r(x, k):
    if k == 0:
        return x
    return math.floor(Fraction(x + Fraction(2 ** k, 2), 2 ** k))


def hold(x, size):
    return min(max(x, -2 ** (size - 1)), 2 ** (size - 1) - 1)


def taken(bits, k):
    x = struct.unpack("<d", struct.pack("<Q", bits))[0]
    if math.isnan(x) or math.isinf(x):
        return None
    return round(Fraction(x) * 2 ** k)


def cross(u, v):
    (a, b, c), (d, e, f) = u, v
    return (b * f - c * e, c * d - a * f, a * e - b * d)


def turned(v, turn):
    w, *u = turn
    t = tuple(2 * x for x in cross(u, v))
    d = cross(u, t)
    return tuple(v[i] + r(w * t[i] + d[i], 60) for i in range(3))


def back(turn):
    w, x, y, z = turn
    return (w, -x, -y, -z)


class Model:
    def __init__(self):
        self.tracks = []
        self.rows = []
        self.filters = []

    def track(self, rate, n, doubles):
        if not 1 <= rate <= 65536 or not 2 <= n <= 4096:
            return [-8]
        poses = []
        for i in range(n):
            one = doubles[7 * i:7 * i + 7]
            place = [taken(b, 20) for b in one[:3]]
            turn = [taken(b, 30) for b in one[3:]]
            if any(x is None or abs(x) > 2 ** 40 for x in place):
                return [-8]
            if any(x is None or abs(x) > 2 ** 31 for x in turn):
                return [-8]
            poses.append((place, turn))
        if len(self.tracks) == 8:
            return [-1]
        self.tracks.append((rate, poses))
        return [len(self.tracks) - 1]

    def numbers(self, poses, i, kind, seat, mark):
        def point(j):
            place, turn = poses[j]
            return [a + b for a, b in zip(place, turned(seat, turn))]

        n = len(poses)
        turn = poses[i][1]
        if kind == 0:
            if not 1 <= i <= n - 2:
                return []
            p, q, s = point(i - 1), point(i), point(i + 1)
            return turned([p[k] - 2 * q[k] + s[k] - mark[k] for k in range(3)], back(turn))
        if kind == 1:
            if i > n - 2:
                return []
            w, *u = turn
            W, *U = poses[i + 1][1]
            a = w * W + sum(x * y for x, y in zip(u, U))
            c = cross(u, U)
            b = [w * U[k] - W * u[k] - c[k] for k in range(3)]
            return [r(-x if a < 0 else x, 30) for x in b]
        if kind == 2:
            return [math.isqrt(sum((p - m) ** 2 for p, m in zip(point(i), mark)))]
        return turned(mark, back(turn))

    def sense(self, t, kind, gain, shift, noise, seed, places):
        seat, mark = places[:3], places[3:]
        fits = 0 <= kind <= 3 and 0 <= shift <= 62 and 0 <= noise <= 16383
        fits = fits and all(abs(x) <= 2 ** 31 for x in seat) and all(abs(x) <= 2 ** 40 for x in mark)
        if not fits:
            return [-8]
        if not 0 <= t < len(self.tracks):
            return [-2]
        width = 1 if kind == 2 else 3
        if len(self.rows) + width > 256:
            return [-1]
        rate, poses = self.tracks[t]
        made = [[] for k in range(width)]
        seed = seed or 1
        for i in range(len(poses)):
            for k, y in enumerate(self.numbers(poses, i, kind, seat, mark)):
                z = seed ^ seed * 2 ** 13 % 2 ** 64
                z = z ^ z // 2 ** 7
                seed = z ^ z * 2 ** 17 % 2 ** 64
                made[k].append(hold(r(gain * y, shift) + seed // 2 ** 33 % (2 * noise + 1) - noise, 16))
        first = len(self.rows)
        self.rows += [(rate, samples) for samples in made]
        return [first]

    def row(self, rate, samples):
        if not 1 <= rate <= 65536:
            return [-8]
        if len(self.rows) == 256:
            return [-1]
        self.rows.append((rate, samples))
        return [len(self.rows) - 1]

    def get(self, a, start, n):
        if start < 0 or n < 0 or n > 4096:
            return [-8]
        if not 0 <= a < len(self.rows):
            return [-2]
        rate, samples = self.rows[a]
        return [len(samples), rate] + samples[start:start + n]

    def filter(self, kind, taps):
        fits = {0: 1 <= len(taps) <= 64, 1: 1 <= len(taps) <= 64, 2: len(taps) == 5, 3: len(taps) == 2, 4: len(taps) == 1}
        if not fits.get(kind, False):
            return [-8]
        if len(self.filters) == 64:
            return [-1]
        self.filters.append([kind, taps, []])
        return [len(self.filters) - 1]

    def run(self, f, a):
        if not (0 <= f < len(self.filters) and 0 <= a < len(self.rows)):
            return [-2]
        if len(self.rows) == 256:
            return [-1]
        if self.filters[f][0] == 4:
            return [-3]
        rate, samples = self.rows[a]
        return self.row(rate, self.through(f, [(x, None) for x in samples]))

    def blend(self, f, a, b):
        if not (0 <= f < len(self.filters) and 0 <= a < len(self.rows) and 0 <= b < len(self.rows)):
            return [-2]
        if len(self.rows) == 256:
            return [-1]
        if self.filters[f][0] != 4 or len(self.rows[a][1]) != len(self.rows[b][1]):
            return [-3]
        return self.row(self.rows[a][0], self.through(f, list(zip(self.rows[a][1], self.rows[b][1]))))

    def still(self, f):
        if not 0 <= f < len(self.filters):
            return [-2]
        self.filters[f][2] = []
        return [0]

    def has_rows(self, *numbers):
        return all(0 <= a < len(self.rows) for a in numbers)

    def thin(self, a, m, first):
        if not 1 <= m <= 65536 or not 0 <= first <= m - 1:
            return [-8]
        if not self.has_rows(a):
            return [-2]
        rate, samples = self.rows[a]
        return self.row(max(1, math.floor(Fraction(rate, m))), [x for i, x in enumerate(samples) if i % m == first])

    def stretch(self, a, step):
        if not 1 <= step <= 16777216:
            return [-8]
        if not self.has_rows(a):
            return [-2]
        rate, samples = self.rows[a]
        made = []
        for j in range(65536):
            i, f = divmod(j * step, 65536)
            if i + 1 >= len(samples):
                break
            made.append(samples[i] + r((samples[i + 1] - samples[i]) * f, 16))
        return self.row(min(max(math.floor(Fraction(65536 * rate, step)), 1), 65536), made)

    def mix(self, a, b, c, d):
        if hold(c, 16) != c or hold(d, 16) != d:
            return [-8]
        if not self.has_rows(a, b):
            return [-2]
        if len(self.rows) == 256:
            return [-1]
        (rate, xs), (_, ys) = self.rows[a], self.rows[b]
        if len(xs) != len(ys):
            return [-3]
        return self.row(rate, [hold(r(c * x + d * y, 15), 16) for x, y in zip(xs, ys)])

    def join(self, a, b):
        if not self.has_rows(a, b):
            return [-2]
        if len(self.rows) == 256:
            return [-1]
        made = self.rows[a][1] + self.rows[b][1]
        if len(made) > 65536:
            return [-3]
        return self.row(self.rows[a][0], made)

    def patterns(self, a, start, k):
        if start < 0 or not 0 <= k <= 10:
            return [-8]
        if not self.has_rows(a):
            return [-2]
        xs = self.rows[a][1][start:start + 2 ** k]
        if len(xs) < 2 ** k:
            return [-3]
        for bit in range(k):
            h = 2 ** bit
            pairs = {i: (xs[i], xs[i + h]) for i in range(2 ** k) if i // h % 2 == 0}
            for i, (x, y) in pairs.items():
                xs[i], xs[i + h] = r(x + y, 1), r(x - y, 1)
        return [0] + xs

    def passes(self, a, low, high, most):
        if hold(low, 16) != low or hold(high, 16) != high or low > high or not 0 <= most <= 4096:
            return [-8]
        if not self.has_rows(a):
            return [-2]
        states = [0]
        for x in self.rows[a][1]:
            states.append(1 if x >= high else 0 if x < low else states[-1])
        changes = [(i, states[i + 1]) for i in range(len(states) - 1) if states[i] != states[i + 1]]
        return [len(changes)] + [x for change in changes[:most] for x in change]

    def late(self, a, b, most):
        if not 0 <= most <= 1024:
            return [-8]
        if not self.has_rows(a, b):
            return [-2]
        xs, ys = self.rows[a][1], self.rows[b][1]
        found = [(lag_sum(xs, ys, d), -abs(d), d) for d in range(-most, most + 1)]
        return [0, max(found)[2], max(found)[0]]

    def sums(self, a):
        if not self.has_rows(a):
            return [-2]
        xs = sorted(self.rows[a][1])
        ends = [xs[0], xs[-1]] if xs else [0, 0]
        return [len(xs)] + ends + [sum(xs), sum(x ** 2 for x in xs)]

    def state(self):
        return [0, len(self.tracks), len(self.rows), len(self.filters)]

    def through(self, f, new):
        """All that the filter was ever given is kept, and gone through anew each time."""
        kind, taps, old = self.filters[f]
        given = old + new
        self.filters[f][2] = given
        return WAYS[kind](taps, given)[len(old):]


def lag_sum(xs, ys, d):
    first, end = max(0, -d), min(len(xs), len(ys) - d)
    return sum(xs[i] * ys[i + d] for i in range(first, end))


def sample_before(given, i, k):
    return given[i - k][0] if i >= k else 0


def sharp(taps, given):
    return [
        hold(r(sum(c * sample_before(given, i, k) for k, c in enumerate(taps)), 15), 16)
        for i in range(len(given))
    ]


def quick(taps, given):
    out = []
    for i in range(len(given)):
        s = 0
        for k, c in enumerate(taps):
            s = hold(s + hold(r(c * sample_before(given, i, k), 15), 16), 16)
        out.append(s)
    return out


def round_(taps, given):
    b0, b1, b2, a1, a2 = taps
    out = []
    for i in range(len(given)):
        y1 = out[i - 1] if i >= 1 else 0
        y2 = out[i - 2] if i >= 2 else 0
        fed = b0 * given[i][0] + b1 * sample_before(given, i, 1) + b2 * sample_before(given, i, 2)
        out.append(hold(r(fed - a1 * y1 - a2 * y2, 14), 16))
    return out


def follower(taps, given):
    p = v = 0
    out = []
    for x, _ in given:
        p = hold(p + v, 32)
        e = 256 * x - p
        p = hold(p + r(taps[0] * e, 15), 32)
        v = hold(v + r(taps[1] * e, 15), 32)
        out.append(hold(r(p, 8), 16))
    return out


def blended(taps, given):
    p = 0
    out = []
    for x, y in given:
        p = hold(p + 256 * x, 32)
        e = 256 * y - p
        p = hold(p + r(taps[0] * e, 15), 32)
        out.append(hold(r(p, 8), 16))
    return out


WAYS = {0: sharp, 1: quick, 2: round_, 3: follower, 4: blended}
