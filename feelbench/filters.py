"""The five kinds of filter, each with its taps and what it remembers from row to row."""

from feelbench.whole import held16, held32, rounded

SHARP = 0
QUICK = 1
ROUND = 2
FOLLOWER = 3
BLEND = 4
# By kind: the fewest taps and the most.
TAPS = ((1, 64), (1, 64), (5, 5), (2, 2), (1, 1))


# What sharp and quick share: taps over the sample and those before it.
class Tapped:
    def __init__(self, taps):
        self.taps = taps
        self.forget()

    def forget(self):
        # The newest first, as the taps go.
        self.before = [0] * (len(self.taps) - 1)

    def run(self, samples):
        backward = list(reversed(samples)) + self.before
        size = len(self.taps)
        self.before = backward[:size - 1]
        return [self.weighed(backward[at:at + size]) for at in range(len(samples) - 1, -1, -1)]

    def weighed(self, window):
        raise NotImplementedError()


class Sharp(Tapped):
    def weighed(self, window):
        return held16(rounded(sum([c * x for c, x in zip(self.taps, window)]), 15))


class Quick(Tapped):
    def weighed(self, window):
        s = 0
        for tap, x in zip(self.taps, window):
            # r(tap times x, 15) and the holds stand here themselves: this runs for each tap of each sample.
            # A part is never below -32767, so it is held on one side alone.
            part = (tap * x + 16384) >> 15
            s += 32767 if part > 32767 else part
            if s > 32767:
                s = 32767
            elif s < -32768:
                s = -32768
        return s


class Round:
    def __init__(self, taps):
        self.taps = taps
        self.forget()

    def forget(self):
        self.x1 = 0
        self.x2 = 0
        self.y1 = 0
        self.y2 = 0

    def run(self, samples):
        return [self.step(x) for x in samples]

    def step(self, x):
        taps = self.taps
        fed = taps[0] * x + taps[1] * self.x1 + taps[2] * self.x2
        back = taps[3] * self.y1 + taps[4] * self.y2
        y = held16(rounded(fed - back, 14))
        self.x2 = self.x1
        self.x1 = x
        self.y2 = self.y1
        self.y1 = y
        return y


class Follower:
    def __init__(self, taps):
        self.taps = taps
        self.forget()

    def forget(self):
        self.place = 0
        self.pace = 0

    def run(self, samples):
        return [self.step(x) for x in samples]

    def step(self, x):
        expected = held32(self.place + self.pace)
        # The document holds the sums: the difference stays exact.
        off = 256 * x - expected
        self.place = held32(expected + rounded(self.taps[0] * off, 15))
        self.pace = held32(self.pace + rounded(self.taps[1] * off, 15))
        return held16(rounded(self.place, 8))


class Blend:
    def __init__(self, taps):
        self.taps = taps
        self.forget()

    def forget(self):
        self.place = 0

    def run_both(self, samples, others):
        return [self.step_both(x, y) for x, y in zip(samples, others)]

    def step_both(self, x, y):
        moved = held32(self.place + 256 * x)
        # Here too the difference stays exact.
        off = 256 * y - moved
        self.place = held32(moved + rounded(self.taps[0] * off, 15))
        return held16(rounded(self.place, 8))


def taps_fit(kind, taps):
    if kind < SHARP or kind > BLEND:
        return False
    bounds = TAPS[kind]
    return bounds[0] <= len(taps) <= bounds[1]


def make_filter(kind, taps):
    if kind == SHARP:
        return Sharp(taps)
    if kind == QUICK:
        return Quick(taps)
    if kind == ROUND:
        return Round(taps)
    if kind == FOLLOWER:
        return Follower(taps)
    return Blend(taps)
