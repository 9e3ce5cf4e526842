"""The workbench: its tracks, rows and filters, and the calls on it."""

from feelbench.filters import Blend, make_filter, taps_fit
from feelbench.findings import changes_of, how_late, patterns_of, sums_of
from feelbench.shapes import MOST_RATE, MOST_SAMPLES, mixed, stretched, stretched_rate, thinned, thinned_rate
from feelbench.tracks import make_track
from feelbench.whole import all_within

# The refusals, in the order in which they are looked at.
OUT_OF_RANGE = -8
NOT_THERE = -2
FULL = -1
UNFIT = -3

MOST_TRACKS = 8
MOST_ROWS = 256
MOST_FILTERS = 64
MOST_POSES = 4096
MOST_TOLD = 4096
MOST_APART = 65536
MOST_STEP = 16777216
MOST_DOUBLINGS = 10
MOST_LATE = 1024


class Row:
    def __init__(self, rate, samples):
        self.rate = rate
        self.samples = samples


# Each call answers a list: the number answered first, then the numbers told.
# A call looks at all that may refuse it before it changes anything.
class Bench:
    def __init__(self):
        self.start_anew()

    def start_anew(self):
        self.tracks = []
        self.rows = []
        self.filters = []
        return [0]

    def add_track(self, rate, n, doubles):
        if not 1 <= rate <= MOST_RATE or not 2 <= n <= MOST_POSES:
            return [OUT_OF_RANGE]
        track = make_track(rate, n, doubles)
        if track is None:
            return [OUT_OF_RANGE]
        if len(self.tracks) >= MOST_TRACKS:
            return [FULL]
        self.tracks.append(track)
        return [len(self.tracks) - 1]

    def sense(self, t, sensor):
        if not sensor.is_in_range():
            return [OUT_OF_RANGE]
        if not is_there(self.tracks, t):
            return [NOT_THERE]
        if len(self.rows) + sensor.width() > MOST_ROWS:
            return [FULL]
        first = len(self.rows)
        track = self.tracks[t]
        for samples in sensor.rows_of(track):
            self.keep_row(track.rate, samples)
        return [first]

    def add_row(self, rate, samples):
        if not 1 <= rate <= MOST_RATE or len(samples) > MOST_SAMPLES:
            return [OUT_OF_RANGE]
        if not all_within(samples, -32768, 32767):
            return [OUT_OF_RANGE]
        if self.is_full_of_rows():
            return [FULL]
        return self.keep_row(rate, samples)

    def tell_row(self, a, start, n):
        if start < 0 or not 0 <= n <= MOST_TOLD:
            return [OUT_OF_RANGE]
        if not is_there(self.rows, a):
            return [NOT_THERE]
        row = self.rows[a]
        return [len(row.samples), row.rate] + row.samples[start:start + n]

    def add_filter(self, kind, taps):
        if not taps_fit(kind, taps) or not all_within(taps, -32768, 32767):
            return [OUT_OF_RANGE]
        if len(self.filters) >= MOST_FILTERS:
            return [FULL]
        self.filters.append(make_filter(kind, taps))
        return [len(self.filters) - 1]

    def run_filter(self, f, a):
        if not is_there(self.filters, f) or not is_there(self.rows, a):
            return [NOT_THERE]
        if self.is_full_of_rows():
            return [FULL]
        chosen = self.filters[f]
        if isinstance(chosen, Blend):
            return [UNFIT]
        row = self.rows[a]
        return self.keep_row(row.rate, chosen.run(row.samples))

    def run_blend(self, f, a, b):
        if not is_there(self.filters, f) or not is_there(self.rows, a) or not is_there(self.rows, b):
            return [NOT_THERE]
        if self.is_full_of_rows():
            return [FULL]
        chosen = self.filters[f]
        row = self.rows[a]
        other = self.rows[b]
        if not isinstance(chosen, Blend) or len(row.samples) != len(other.samples):
            return [UNFIT]
        return self.keep_row(row.rate, chosen.run_both(row.samples, other.samples))

    def still_filter(self, f):
        if not is_there(self.filters, f):
            return [NOT_THERE]
        self.filters[f].forget()
        return [0]

    def thin_row(self, a, m, first):
        if not 1 <= m <= MOST_APART or not 0 <= first < m:
            return [OUT_OF_RANGE]
        if not is_there(self.rows, a):
            return [NOT_THERE]
        if self.is_full_of_rows():
            return [FULL]
        row = self.rows[a]
        return self.keep_row(thinned_rate(row.rate, m), thinned(row.samples, m, first))

    def stretch_row(self, a, step):
        if not 1 <= step <= MOST_STEP:
            return [OUT_OF_RANGE]
        if not is_there(self.rows, a):
            return [NOT_THERE]
        if self.is_full_of_rows():
            return [FULL]
        row = self.rows[a]
        return self.keep_row(stretched_rate(row.rate, step), stretched(row.samples, step))

    def mix_rows(self, a, b, c, d):
        if not all_within((c, d), -32768, 32767):
            return [OUT_OF_RANGE]
        if not is_there(self.rows, a) or not is_there(self.rows, b):
            return [NOT_THERE]
        if self.is_full_of_rows():
            return [FULL]
        row = self.rows[a]
        other = self.rows[b]
        if len(row.samples) != len(other.samples):
            return [UNFIT]
        return self.keep_row(row.rate, mixed(row.samples, other.samples, c, d))

    def join_rows(self, a, b):
        if not is_there(self.rows, a) or not is_there(self.rows, b):
            return [NOT_THERE]
        if self.is_full_of_rows():
            return [FULL]
        row = self.rows[a]
        other = self.rows[b]
        if len(row.samples) + len(other.samples) > MOST_SAMPLES:
            return [UNFIT]
        return self.keep_row(row.rate, row.samples + other.samples)

    def tell_patterns(self, a, start, k):
        if start < 0 or not 0 <= k <= MOST_DOUBLINGS:
            return [OUT_OF_RANGE]
        if not is_there(self.rows, a):
            return [NOT_THERE]
        samples = self.rows[a].samples
        end = start + (1 << k)
        if end > len(samples):
            return [UNFIT]
        return [0] + patterns_of(samples[start:end])

    def tell_passes(self, a, low, high, most):
        if not -32768 <= low <= high <= 32767 or not 0 <= most <= MOST_TOLD:
            return [OUT_OF_RANGE]
        if not is_there(self.rows, a):
            return [NOT_THERE]
        changes = changes_of(self.rows[a].samples, low, high)
        told = [len(changes)]
        for change in changes[:most]:
            told.extend(change)
        return told

    def tell_late(self, a, b, most):
        if not 0 <= most <= MOST_LATE:
            return [OUT_OF_RANGE]
        if not is_there(self.rows, a) or not is_there(self.rows, b):
            return [NOT_THERE]
        return [0] + how_late(self.rows[a].samples, self.rows[b].samples, most)

    def tell_sums(self, a):
        if not is_there(self.rows, a):
            return [NOT_THERE]
        samples = self.rows[a].samples
        return [len(samples)] + sums_of(samples)

    def tell_state(self):
        return [0, len(self.tracks), len(self.rows), len(self.filters)]

    def is_full_of_rows(self):
        return len(self.rows) >= MOST_ROWS

    def keep_row(self, rate, samples):
        self.rows.append(Row(rate, samples))
        return [len(self.rows) - 1]


def is_there(things, number):
    return 0 <= number < len(things)
