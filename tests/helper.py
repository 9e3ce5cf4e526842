"""Calls as lists of numbers, and answers split up again by call."""

import struct

from feelbench.desk import answers

STILL_TURN = (1.0, 0.0, 0.0, 0.0)
IDLE_PLACES = (0, 0, 0, 0, 0, 0)
UNIT = 2.0 ** -20


def bits(x):
    return struct.unpack("<Q", struct.pack("<d", x))[0]


def new():
    return [1]


def track_bits(rate, n, doubles):
    return [2, rate, n, len(doubles)] + list(doubles)


def track(rate, poses):
    """poses: (x, y, z, w, x, y, z) each, as floats."""
    return track_bits(rate, len(poses), [bits(float(x)) for pose in poses for x in pose])


def places_track(rate, places):
    """places in whole units of 2^-20, all with the turn that turns nothing."""
    return track(rate, [tuple(a * UNIT for a in place) + STILL_TURN for place in places])


def turns_track(rate, turns):
    return track(rate, [(0.0, 0.0, 0.0) + tuple(turn) for turn in turns])


def sense(t, kind, gain=1, shift=0, noise=0, seed=1, places=IDLE_PLACES):
    return [3, t, kind, gain, shift, noise, seed, len(places)] + list(places)


def row(rate, samples):
    return [4, rate, len(samples)] + list(samples)


def get(a, start=0, n=4096):
    return [5, a, start, n]


def filter_(kind, taps):
    return [6, kind, len(taps)] + list(taps)


def run(f, a):
    return [7, f, a]


def blend(f, a, b):
    return [8, f, a, b]


def still(f):
    return [9, f]


def thin(a, m, first):
    return [10, a, m, first]


def stretch(a, step):
    return [11, a, step]


def mix(a, b, c, d):
    return [12, a, b, c, d]


def join(a, b):
    return [13, a, b]


def patterns(a, start, k):
    return [14, a, start, k]


def passes(a, low, high, most=4096):
    return [15, a, low, high, most]


def late(a, b, most):
    return [16, a, b, most]


def sums(a):
    return [17, a]


def state():
    return [18]


def flat(calls):
    return [x for call in calls for x in call]


def split(told):
    parts = []
    at = 0
    while at < len(told):
        parts.append(told[at + 1:at + 1 + told[at]])
        at += 1 + told[at]
    return parts


def ask(*calls):
    """The answers to new and these calls, one list a call, that of new left out."""
    told = split(answers(flat([new()] + list(calls))))
    assert len(told) == len(calls) + 1, told
    assert told[0] == [0], told
    return told[1:]


def last(*calls):
    return ask(*calls)[-1]


def samples_of(*calls):
    """The samples told by the last call, a get."""
    return last(*calls)[2:]


def filtered(kind, taps, samples):
    return samples_of(filter_(kind, taps), row(10, samples), run(0, 0), get(1))


def sensed(track_call, sense_call):
    """The samples of all rows that one sense makes."""
    made = 1 if sense_call[2] == 2 else 3
    told = ask(track_call, sense_call, *[get(a) for a in range(made)])
    assert told[:2] == [[0], [0]], told
    return [part[2:] for part in told[2:]]


def doubled(samples, times):
    """Calls that make row 0 of these samples, then rows 1, 2, ..., each the one before it twice over."""
    return [row(9, samples)] + [join(a, a) for a in range(times)]


def rows_made(count):
    """Calls that leave the bench with track 0 and so many empty or one-sample rows."""
    calls = [places_track(7, [(0, 0, 0), (0, 0, 0)])]
    calls += [sense(0, 0)] * (count // 3)
    calls += [row(7, [])] * (count % 3)
    return calls
