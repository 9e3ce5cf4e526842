"""The way in: calls as one list of whole numbers, answers as another."""

from feelbench.bench import Bench
from feelbench.sensing import Sensor


# Goes through the list of calls from front to back and never changes it.
class Reader:
    def __init__(self, numbers):
        self.numbers = numbers
        self.at = 0

    def is_done(self):
        return self.at >= len(self.numbers)

    def take(self):
        number = self.numbers[self.at]
        self.at += 1
        return number

    # A copy of the list that stands next, its length ahead of it.
    def take_list(self):
        length = self.take()
        taken = self.numbers[self.at:self.at + length]
        self.at += length
        return taken


def call_new(bench, reader):
    return bench.start_anew()


def call_track(bench, reader):
    rate = reader.take()
    n = reader.take()
    return bench.add_track(rate, n, reader.take_list())


def call_sense(bench, reader):
    t = reader.take()
    kind = reader.take()
    gain = reader.take()
    shift = reader.take()
    noise = reader.take()
    seed = reader.take()
    return bench.sense(t, Sensor(kind, gain, shift, noise, seed, reader.take_list()))


def call_row(bench, reader):
    rate = reader.take()
    return bench.add_row(rate, reader.take_list())


def call_get(bench, reader):
    a = reader.take()
    start = reader.take()
    return bench.tell_row(a, start, reader.take())


def call_filter(bench, reader):
    kind = reader.take()
    return bench.add_filter(kind, reader.take_list())


def call_run(bench, reader):
    f = reader.take()
    return bench.run_filter(f, reader.take())


def call_blend(bench, reader):
    f = reader.take()
    a = reader.take()
    return bench.run_blend(f, a, reader.take())


def call_still(bench, reader):
    return bench.still_filter(reader.take())


def call_thin(bench, reader):
    a = reader.take()
    m = reader.take()
    return bench.thin_row(a, m, reader.take())


def call_stretch(bench, reader):
    a = reader.take()
    return bench.stretch_row(a, reader.take())


def call_mix(bench, reader):
    a = reader.take()
    b = reader.take()
    c = reader.take()
    return bench.mix_rows(a, b, c, reader.take())


def call_join(bench, reader):
    a = reader.take()
    return bench.join_rows(a, reader.take())


def call_patterns(bench, reader):
    a = reader.take()
    start = reader.take()
    return bench.tell_patterns(a, start, reader.take())


def call_passes(bench, reader):
    a = reader.take()
    low = reader.take()
    high = reader.take()
    return bench.tell_passes(a, low, high, reader.take())


def call_late(bench, reader):
    a = reader.take()
    b = reader.take()
    return bench.tell_late(a, b, reader.take())


def call_sums(bench, reader):
    return bench.tell_sums(reader.take())


def call_state(bench, reader):
    return bench.tell_state()


CALLS = {
    1: call_new,
    2: call_track,
    3: call_sense,
    4: call_row,
    5: call_get,
    6: call_filter,
    7: call_run,
    8: call_blend,
    9: call_still,
    10: call_thin,
    11: call_stretch,
    12: call_mix,
    13: call_join,
    14: call_patterns,
    15: call_passes,
    16: call_late,
    17: call_sums,
    18: call_state,
}


# For each call how many numbers it answers, then these numbers.
def answers(calls):
    reader = Reader(calls)
    bench = Bench()
    told = []
    while not reader.is_done():
        call = CALLS[reader.take()]
        answer = call(bench, reader)
        told.append(len(answer))
        told.extend(answer)
    return told
