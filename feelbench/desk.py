"""The way in: calls as one list of whole numbers, answers as another."""

from feelbench.bench import Bench
from feelbench.sensing import Sensor


# Goes through the list of calls from front to back and never changes it.
class Reader:
    def __init__(self, numbers):
        self.numbers = numbers
        self.at = 0

    def is_done(self):
        return self.at >= len(self.numbers)

    def take(self):
        number = self.numbers[self.at]
        self.at += 1
        return number

    # A copy of the list that stands next, its length ahead of it.
    def take_list(self):
        length = self.take()
        taken = self.numbers[self.at:self.at + length]
        self.at += length
        return taken


def call_new(bench, reader):
    return bench.start_anew()


def call_track(bench, reader):
    rate = reader.take()
    n = reader.take()
    return bench.add_track(rate, n, reader.take_list())


def call_sense(bench, reader):
    t = reader.take()
    kind = reader.take()
    gain = reader.take()
    shift = reader.take()
    noise = reader.take()
    seed = reader.take()
    return bench.sense(t, Sensor(kind, gain, shift, noise, seed, reader.take_list()))


def call_row(bench, reader):
    rate = reader.take()
    return bench.add_row(rate, reader.take_list())


def call_get(bench, reader):
    a = reader.take()
    start = reader.take()
    return bench.tell_row(a, start, reader.take())


def call_filter(bench, reader):
    kind = reader.take()
    return bench.add_filter(kind, reader.take_list())


def call_run(bench, reader):
    f = reader.take()
    return bench.run_filter(f, reader.take())


def call_blend(bench, reader):
    f = reader.take()
    a = reader.take()
    return bench.run_blend(f, a, reader.take())


def call_still(bench, reader):
    return bench.still_filter(reader.take())


CALLS = {
    1: call_new,
    2: call_track,
    3: call_sense,
    4: call_row,
    5: call_get,
    6: call_filter,
    7: call_run,
    8: call_blend,
    9: call_still,
}


# For each call how many numbers it answers, then these numbers.
def answers(calls):
    reader = Reader(calls)
    bench = Bench()
    told = []
    while not reader.is_done():
        call = CALLS[reader.take()]
        answer = call(bench, reader)
        told.append(len(answer))
        told.extend(answer)
    return told
