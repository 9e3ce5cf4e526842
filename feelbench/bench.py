"""The workbench: its tracks, rows and filters, and the calls on it."""

from feelbench.filters import Blend, make_filter, taps_fit
from feelbench.tracks import make_track
from feelbench.whole import all_within

# The refusals, in the order in which they are looked at.
OUT_OF_RANGE = -8
NOT_THERE = -2
FULL = -1
UNFIT = -3

MOST_TRACKS = 8
MOST_ROWS = 256
MOST_FILTERS = 64
MOST_POSES = 4096
MOST_RATE = 65536
MOST_SAMPLES = 65536
MOST_TOLD = 4096


class Row:
    def __init__(self, rate, samples):
        self.rate = rate
        self.samples = samples


# Each call answers a list: the number answered first, then the numbers told.
# A call looks at all that may refuse it before it changes anything.
class Bench:
    def __init__(self):
        self.start_anew()

    def start_anew(self):
        self.tracks = []
        self.rows = []
        self.filters = []
        return [0]

    def add_track(self, rate, n, doubles):
        if not 1 <= rate <= MOST_RATE or not 2 <= n <= MOST_POSES:
            return [OUT_OF_RANGE]
        track = make_track(rate, n, doubles)
        if track is None:
            return [OUT_OF_RANGE]
        if len(self.tracks) >= MOST_TRACKS:
            return [FULL]
        self.tracks.append(track)
        return [len(self.tracks) - 1]

    def sense(self, t, sensor):
        if not sensor.is_in_range():
            return [OUT_OF_RANGE]
        if not is_there(self.tracks, t):
            return [NOT_THERE]
        if len(self.rows) + sensor.width() > MOST_ROWS:
            return [FULL]
        first = len(self.rows)
        track = self.tracks[t]
        for samples in sensor.rows_of(track):
            self.keep_row(track.rate, samples)
        return [first]

    def add_row(self, rate, samples):
        if not 1 <= rate <= MOST_RATE or len(samples) > MOST_SAMPLES:
            return [OUT_OF_RANGE]
        if not all_within(samples, -32768, 32767):
            return [OUT_OF_RANGE]
        if self.is_full_of_rows():
            return [FULL]
        return self.keep_row(rate, samples)

    def tell_row(self, a, start, n):
        if start < 0 or not 0 <= n <= MOST_TOLD:
            return [OUT_OF_RANGE]
        if not is_there(self.rows, a):
            return [NOT_THERE]
        row = self.rows[a]
        return [len(row.samples), row.rate] + row.samples[start:start + n]

    def add_filter(self, kind, taps):
        if not taps_fit(kind, taps) or not all_within(taps, -32768, 32767):
            return [OUT_OF_RANGE]
        if len(self.filters) >= MOST_FILTERS:
            return [FULL]
        self.filters.append(make_filter(kind, taps))
        return [len(self.filters) - 1]

    def run_filter(self, f, a):
        if not is_there(self.filters, f) or not is_there(self.rows, a):
            return [NOT_THERE]
        if self.is_full_of_rows():
            return [FULL]
        chosen = self.filters[f]
        if isinstance(chosen, Blend):
            return [UNFIT]
        row = self.rows[a]
        return self.keep_row(row.rate, chosen.run(row.samples))

    def run_blend(self, f, a, b):
        if not is_there(self.filters, f) or not is_there(self.rows, a) or not is_there(self.rows, b):
            return [NOT_THERE]
        if self.is_full_of_rows():
            return [FULL]
        chosen = self.filters[f]
        row = self.rows[a]
        other = self.rows[b]
        if not isinstance(chosen, Blend) or len(row.samples) != len(other.samples):
            return [UNFIT]
        return self.keep_row(row.rate, chosen.run_both(row.samples, other.samples))

    def still_filter(self, f):
        if not is_there(self.filters, f):
            return [NOT_THERE]
        self.filters[f].forget()
        return [0]

    def is_full_of_rows(self):
        return len(self.rows) >= MOST_ROWS

    def keep_row(self, rate, samples):
        self.rows.append(Row(rate, samples))
        return [len(self.rows) - 1]


def is_there(things, number):
    return 0 <= number < len(things)
