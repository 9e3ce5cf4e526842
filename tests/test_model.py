"""Many benches by chance, always the same ones, held against the slow model."""

import random
import struct
import unittest

from feelbench.desk import answers
from tests.helper import (
    blend, filter_, flat, get, join, late, mix, new, passes, patterns, row, run, sense, split, state, still, stretch,
    sums, thin, track_bits,
)
from tests.model import Model

SPECIAL_SAMPLES = (-32768, -32767, -1, 0, 1, 32766, 32767)


def some_sample(chance):
    way = chance.randrange(3)
    if way == 0:
        return chance.choice(SPECIAL_SAMPLES)
    if way == 1:
        return chance.randint(-300, 300)
    return chance.randint(-32768, 32767)


def some_number(chance, low, high):
    """Mostly within, at times at an end or just outside."""
    if chance.random() < 0.03:
        return chance.choice((low - 1, high + 1, -2147483648, 2147483647))
    if chance.random() < 0.2:
        return chance.choice((low, high))
    return chance.randint(low, high)


def some_double(chance, end, places):
    way = chance.randrange(20)
    if way < 6:
        x = chance.uniform(-end, end)
    elif way < 12:
        x = chance.randint(-2000, 2000) * 0.5 ** (places + chance.randint(0, 3))
    elif way < 16:
        x = chance.choice((0.0, -0.0, 1.0, -1.0, 0.5, end, -end))
    else:
        x = chance.gauss(0, end / 8)
    x = min(max(x, -end), end)
    word = struct.unpack("<Q", struct.pack("<d", x))[0]
    if chance.random() < 0.001:
        word = chance.getrandbits(64)
    return word


def some_track(chance):
    n = chance.randint(2, 12)
    doubles = []
    end = chance.choice((2.0 ** 20, 8.0, 0.01))
    for _ in range(n):
        doubles += [some_double(chance, end, 20) for _ in range(3)]
        doubles += [some_double(chance, 2.0, 30) for _ in range(4)]
    return track_bits(some_number(chance, 1, 65536), n, doubles)


def some_sense(chance):
    seat = chance.choice((10, 2 ** 20, 2 ** 31))
    mark = chance.choice((10, 2 ** 20, 2 ** 40))
    places = [chance.choice((0, seat, -seat, chance.randint(-seat, seat))) for _ in range(3)]
    places += [chance.choice((0, mark, -mark, chance.randint(-mark, mark))) for _ in range(3)]
    if chance.random() < 0.05:
        places[chance.randrange(6)] = chance.choice((2 ** 31 + 1, -2 ** 40 - 1, 2 ** 63 - 1, -2 ** 63))
    gain = chance.choice((1, -1, chance.randint(-1000, 1000), chance.randint(-2 ** 31, 2 ** 31 - 1)))
    shift = chance.choice((0, 10, chance.randint(0, 62), some_number(chance, 0, 62)))
    noise = chance.choice((0, chance.randint(0, 100), some_number(chance, 0, 16383)))
    seed = chance.choice((0, 1, 2 ** 64 - 1, chance.getrandbits(64)))
    return sense(some_number(chance, 0, 1), some_number(chance, 0, 3), gain, shift, noise, seed, places)


def some_row(chance):
    n = chance.choice((0, 1, 7, 7, 7, chance.randint(0, 60)))
    return row(some_number(chance, 1, 65536), [some_sample(chance) for _ in range(n)])


def some_filter(chance):
    kind = some_number(chance, 0, 4)
    n = {0: chance.randint(1, 64), 1: chance.randint(1, 12), 2: 5, 3: 2, 4: 1}.get(kind, 1)
    if chance.random() < 0.05:
        n = chance.randint(0, 64)
    return filter_(kind, [some_sample(chance) for _ in range(n)])


def some_call(chance):
    way = chance.randrange(100)
    a, b, f = (some_number(chance, 0, chance.choice((3, 20))) for _ in range(3))
    if way < 6:
        return some_track(chance)
    if way < 18:
        return some_sense(chance)
    if way < 32:
        return some_row(chance)
    if way < 50:
        return get(a, chance.choice((0, 0, some_number(chance, 0, 30))), chance.choice((4096, some_number(chance, 0, 4096))))
    if way < 62:
        return some_filter(chance)
    if way < 80:
        return run(f, a)
    if way < 94:
        return blend(f, a, b)
    if way < 99:
        return still(f)
    return new()


def some_shape(chance, top):
    """A call of points 10 to 13, on rows up to top."""
    a, b = some_number(chance, 0, top), some_number(chance, 0, top)
    way = chance.randrange(4)
    if way == 0:
        m = chance.choice((1, 2, 3, chance.randint(1, 20), some_number(chance, 1, 65536)))
        return thin(a, m, chance.choice((0, chance.randint(0, 3), some_number(chance, 0, max(m - 1, 0)))))
    if way == 1:
        # Small steps would make rows too long for the slow model.
        return stretch(a, chance.choice((65536, chance.randint(5000, 200000), chance.randint(65536, 16777217), 0, -1)))
    if way == 2:
        return mix(a, b, *(chance.choice((some_sample(chance), some_number(chance, -32768, 32767))) for _ in range(2)))
    return join(a, b)


def some_finding(chance, top):
    """A call of points 14 to 18, on rows up to top."""
    a, b = some_number(chance, 0, top), some_number(chance, 0, top)
    way = chance.randrange(5)
    if way == 0:
        return patterns(a, some_number(chance, 0, 6), chance.choice((0, 1, 2, 3, some_number(chance, 0, 10))))
    if way == 1:
        low, high = sorted((some_sample(chance), some_sample(chance)))
        low, high = chance.choice(((low, high), (low, low), (high, low), (low, 32768), (-32769, high)))
        return passes(a, low, high, chance.choice((chance.randint(0, 5), some_number(chance, 0, 4096))))
    if way == 2:
        return late(a, b, chance.choice((chance.randint(0, 12), some_number(chance, 0, 70), 1025)))
    if way == 3:
        return sums(a)
    return state()


MODEL_CALLS = {
    2: lambda model, call: model.track(call[1], call[2], call[4:]),
    3: lambda model, call: model.sense(*call[1:7], call[8:]),
    4: lambda model, call: model.row(call[1], call[3:]),
    5: lambda model, call: model.get(*call[1:]),
    6: lambda model, call: model.filter(call[1], call[3:]),
    7: lambda model, call: model.run(*call[1:]),
    8: lambda model, call: model.blend(*call[1:]),
    9: lambda model, call: model.still(*call[1:]),
    10: lambda model, call: model.thin(*call[1:]),
    11: lambda model, call: model.stretch(*call[1:]),
    12: lambda model, call: model.mix(*call[1:]),
    13: lambda model, call: model.join(*call[1:]),
    14: lambda model, call: model.patterns(*call[1:]),
    15: lambda model, call: model.passes(*call[1:]),
    16: lambda model, call: model.late(*call[1:]),
    17: lambda model, call: model.sums(*call[1:]),
    18: lambda model, call: model.state(),
}


def model_answers(calls):
    told = []
    model = Model()
    for call in calls:
        if call[0] == 1:
            model = Model()
            told.append([0])
        else:
            told.append(MODEL_CALLS[call[0]](model, call))
    return told


class ModelTest(unittest.TestCase):
    def check(self, calls):
        while len(flat(calls)) > 16000:
            calls.pop()
        self.assertEqual(split(answers(flat(calls))), model_answers(calls))

    def test_benches_by_chance(self):
        chance = random.Random(20)
        for _ in range(150):
            self.check([new()] + [some_call(chance) for _ in range(99)])

    def test_sensors_by_chance(self):
        chance = random.Random(21)
        for _ in range(150):
            calls = [new(), some_track(chance), some_track(chance)]
            calls += [some_sense(chance) for _ in range(15)] + [get(a) for a in range(45)]
            self.check(calls)

    def test_long_rows_through_each_filter_by_chance(self):
        chance = random.Random(22)
        for kind in range(5):
            for _ in range(12):
                n = {0: 4, 1: 4, 2: 5, 3: 2, 4: 1}[kind]
                taps = [some_sample(chance) for _ in range(n)]
                rows = [row(9, [some_sample(chance) for _ in range(600)]) for _ in range(2)]
                go = [blend(0, 0, 1), blend(0, 1, 0)] if kind == 4 else [run(0, 0), run(0, 1)]
                self.check([new(), filter_(kind, taps)] + rows + go + [get(2), get(3)])

    def test_rows_made_of_rows_by_chance(self):
        chance = random.Random(23)
        for _ in range(150):
            calls = [new()] + [some_row(chance) for _ in range(8)]
            calls += [some_shape(chance, 12) for _ in range(20)] + [get(a) for a in range(8, 28)]
            calls += [some_finding(chance, 12) for _ in range(40)] + [state()]
            self.check(calls)

    def test_all_calls_on_one_bench_by_chance(self):
        chance = random.Random(24)
        for _ in range(100):
            calls = [new()]
            for _ in range(33):
                calls += [some_call(chance), some_shape(chance, 20), some_finding(chance, 20)]
            self.check(calls)

    def test_findings_of_long_rows_by_chance(self):
        chance = random.Random(25)
        for sizes in ((1023, 1024), (1025, 2049), (2048, 1), (3, 4000), (3000, 3000)):
            rows = [row(9, [some_sample(chance) for _ in range(n)]) for n in sizes]
            most = chance.choice((0, 17, 100))
            asked = [late(0, 1, most), late(1, 0, most), late(1, 1, most)]
            asked += [patterns(a, chance.randint(0, 40), 10) for a in (0, 1)]
            asked += [passes(a, -500, 1000) for a in (0, 1)] + [sums(0), sums(1)]
            self.check([new()] + rows + asked)


if __name__ == "__main__":
    unittest.main()
